"""Programs with jumps: graphs with more edges than their texts tell, and how wide these are."""

from sevenpoints.drawing import END
from sevenpoints.errors import BadRow
from sevenpoints.graphs import Edge, Graph
from sevenpoints.lots import Lot
from sevenpoints.rows import is_between, is_row
from sevenpoints.widths import Bare, bare_of, least_width


def is_jump(graph, value):
    """Whether a value is a jump from point to point of a graph."""
    if not is_row(value) or len(value) != 2:
        return False
    return all([is_between(point, 0, graph.points - 1) for point in value]) and value[0] != END


def jumped(graph, jumps):
    """The Graph with an edge for each jump behind its own ones."""
    if not is_row(jumps) or not all([is_jump(graph, jump) for jump in jumps]):
        raise BadRow(jumps)
    return Graph(graph.points, list(graph.edges) + [Edge(start, ("skip",), end) for start, end in jumps])


def lots_with(lots, points):
    """The same Lots with all points of a row put into each one."""
    return tuple([Lot(sorted(set(list(lot.points) + list(points))), lot.parent) for lot in lots])


def wide_jumps(graph):
    """All jumps between unlike points each of which makes the least width greater."""
    bare = bare_of(graph)
    least = least_width(bare)
    found = []
    for one in range(graph.points):
        for other in range(one + 1, graph.points):
            # Which way a jump goes makes no difference to the bare graph.
            if least_width(Bare(bare.points, list(bare.pairs) + [(one, other)])) > least:
                found.extend([(one, other), (other, one)])
    return tuple(sorted([jump for jump in found if jump[0] != END]))
