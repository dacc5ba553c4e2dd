"""Graphs of programs: their points and edges, and walks along them."""

from sevenpoints.drawing import BEGIN, END, Drawing
from sevenpoints.errors import BadPoint
from sevenpoints.meaning import Done, check_turns, operand_value, pair_holds, value_told
from sevenpoints.programs import names_in
from sevenpoints.rows import as_row, each_once, is_between


class Edge:
    """An edge: the point where it begins, its deed, and the point where it ends."""

    def __init__(self, start, deed, end):
        self.start = as_row(start)
        self.deed = as_row(deed)
        self.end = as_row(end)

    def __eq__(self, other):
        return (isinstance(other, Edge) and self.start == other.start
                and self.deed == other.deed and self.end == other.end)


class Graph:
    """A graph: how many points it has, and its edges."""

    def __init__(self, points, edges):
        self.points = as_row(points)
        self.edges = as_row(edges)

    def __eq__(self, other):
        return isinstance(other, Graph) and self.points == other.points and self.edges == other.edges


def graph_of(program):
    """The Graph of a program."""
    drawing = Drawing(program)
    return Graph(drawing.points, [Edge(start, deed, end) for start, deed, end in drawing.edges])


def check_point(graph, point):
    """Raise BadPoint for what is no point of the graph."""
    if not is_between(point, 0, graph.points - 1):
        raise BadPoint(point)


def ways_from(graph, point):
    """The indices of the edges that begin at a point."""
    check_point(graph, point)
    return tuple([at for at, edge in enumerate(graph.edges) if edge.start == point])


def ways_to(graph, point):
    """The indices of the edges that end at a point."""
    check_point(graph, point)
    return tuple([at for at, edge in enumerate(graph.edges) if edge.end == point])


def names_read(deed):
    """The unlike names that a deed reads, in the order in which they stand in it."""
    told = as_row(deed)
    return each_once(names_in(told[2] if told[0] == "set" else told))


def name_set(deed):
    """The name that a set changes, None for other deeds."""
    return deed[1] if deed[0] == "set" else None


def begun_at(graph):
    """For each point the indices of the edges that begin there."""
    found = [[] for _ in range(graph.points)]
    for at, edge in enumerate(graph.edges):
        found[edge.start].append(at)
    return found


def can_be_gone(deed, held):
    """Whether a walk with these values may go along an edge with a deed."""
    return deed[0] != "test" or pair_holds(deed[1], held) == deed[2]


def walk_of(graph, point, held, turns):
    """The indices of the first so many edges of a walk, and the value with which it ends, None if it does not."""
    held = dict(held)
    begun = begun_at(graph)
    gone = []
    while len(gone) < turns:
        ahead = [at for at in begun[point] if can_be_gone(graph.edges[at].deed, held)]
        edge = graph.edges[ahead[0]]
        gone.append(ahead[0])
        if edge.deed[0] == "give":
            return gone, operand_value(edge.deed[1], held)
        if edge.deed[0] == "set":
            held[edge.deed[1]] = value_told(edge.deed[2], held)
        point = edge.end
    return gone, None


def walked_from(graph, point, values, turns):
    """Done if the walk from a point ends within so many edges, otherwise None."""
    check_point(graph, point)
    if point == END:
        raise BadPoint(point)
    check_turns(turns)
    gone, value = walk_of(graph, point, {pair[0]: pair[1] for pair in values}, turns)
    return None if value is None else Done(value, len(gone))


def walked(graph, values, turns):
    """Done if the walk from the begin ends within so many edges, otherwise None."""
    return walked_from(graph, BEGIN, values, turns)
