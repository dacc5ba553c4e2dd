"""Tallies: how often edges are taken."""

from sevenpoints.graphs import graph_of, walk_of
from sevenpoints.meaning import check_rows, check_turns


def counts(program, rows, turns):
    """For each edge how often the walks of all rows of inputs take it, each along its first so many edges."""
    check_rows(program, rows)
    check_turns(turns)
    graph = graph_of(program)
    taken = [0] * len(graph.edges)
    for row in rows:
        held = {name: worth for name, worth in zip(program.inputs, row)}
        gone, _ = walk_of(graph, 0, held, turns)
        for at in gone:
            taken[at] += 1
    return tuple(taken)
