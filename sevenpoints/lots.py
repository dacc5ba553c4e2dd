"""Lots of at most seven points: the tree of lots of a program, and questions to such trees."""

from sevenpoints.drawing import Drawing
from sevenpoints.errors import BadNumber
from sevenpoints.rows import as_row, is_ascending, is_between


class Lot:
    """A lot: its points, and the index of its parent, None for the first one."""

    def __init__(self, points, parent):
        self.points = as_row(points)
        self.parent = as_row(parent)

    def __eq__(self, other):
        return isinstance(other, Lot) and self.points == other.points and self.parent == other.parent


def lots_of(program):
    """The tree of lots of a program."""
    drawing = Drawing(program)
    return tuple([Lot(points, parent) for points, parent in drawing.lots])


def is_ascending_row(points, many):
    """Whether a value is a strictly ascending tuple of integers from 0 to below many."""
    if not isinstance(points, tuple) or not all([is_between(point, 0, many - 1) for point in points]):
        return False
    return is_ascending(points)


def has_parent(lot, index):
    """Whether a lot with this index has a parent as it must: an earlier lot, none if it is the first one."""
    if index == 0:
        return lot.parent is None
    return is_between(lot.parent, 0, index - 1)


def are_lots(graph, value):
    """Whether a value is a tuple of Lots, each with points of the graph and a parent as it must have one."""
    if not isinstance(value, tuple) or not all([isinstance(lot, Lot) for lot in value]):
        return False
    if not all([is_ascending_row(lot.points, graph.points) for lot in value]):
        return False
    return all([has_parent(lot, index) for index, lot in enumerate(value)])


def hold_edges(graph, lots):
    """Whether each edge has both its points in some lot."""
    pairs = {(one, other) for lot in lots for one in lot.points for other in lot.points}
    for edge in graph.edges:
        if (edge.start, edge.end) not in pairs:
            return False
    return True


def hang_together(graph, lots):
    """Whether each point is in some lot, and its lots hang together."""
    # They do if just one of them is without a parent that has the point, too.
    tops = [0] * graph.points
    for lot in lots:
        above = () if lot.parent is None else lots[lot.parent].points
        for point in lot.points:
            if point not in above:
                tops[point] += 1
    return all([many == 1 for many in tops])


def is_tree(graph, lots):
    """Whether a value is a tree of lots of a graph."""
    return are_lots(graph, lots) and hold_edges(graph, lots) and hang_together(graph, lots)


def width(lots):
    """The greatest number of points in a lot, less 1."""
    return max([len(lot.points) for lot in lots]) - 1


def check_index(lots, index):
    """Raise BadNumber for what is no index of a lot."""
    if not is_between(index, 0, len(lots) - 1):
        raise BadNumber("index", index)


def shared(lots, index):
    """The points that a lot has in common with its parent."""
    check_index(lots, index)
    if index == 0:
        return ()
    lot = lots[index]
    above = lots[lot.parent].points
    return tuple([point for point in lot.points if point in above])


def home_of(lots, one, other):
    """The least index of a lot that has both points, None if there is none."""
    for index, lot in enumerate(lots):
        if one in lot.points and other in lot.points:
            return index
    return None


def below(lots, index):
    """The indices of a lot and of all lots below it."""
    check_index(lots, index)
    found = {index: True}
    for at in range(index + 1, len(lots)):
        if lots[at].parent in found:
            found[at] = True
    return tuple(list(found))
