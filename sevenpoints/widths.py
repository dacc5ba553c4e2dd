"""Bare graphs and their widths: trees of lots of least width, escapes from guards, and nests."""

from sevenpoints.errors import BadNumber, BadRow, TooMany
from sevenpoints.graphs import Edge, Graph
from sevenpoints.hunting import can_be_hit, greatest_escape, lasts, least_order, neighbors_then, touching_choice
from sevenpoints.lots import Lot, is_ascending_row, is_tree
from sevenpoints.parts import Parts, many_in, mask_of, points_in
from sevenpoints.rows import each_once, is_between, is_natural, is_order, is_row

MOST_POINTS = 10
MOST_NEST_POINTS = 8


def are_pairs(value, points):
    """Whether a value is a row of pairs of unlike points."""
    if not is_row(value) or not all([is_row(pair) and len(pair) == 2 for pair in value]):
        return False
    return all([is_between(one, 0, points - 1) and is_between(other, 0, points - 1) and one != other
                for one, other in value])


class Bare:
    """A bare graph: how many points it has, and its pairs, ascending, the lesser point first, each once."""

    def __init__(self, points, pairs):
        if not is_natural(points) or points == 0:
            raise BadNumber("points", points)
        if not are_pairs(pairs, points):
            raise BadRow(pairs)
        self.points = points
        self.pairs = tuple(sorted({(min(one, other), max(one, other)) for one, other in pairs}))

    def __eq__(self, other):
        return isinstance(other, Bare) and self.points == other.points and self.pairs == other.pairs


def bare_of(graph):
    """The Bare of a Graph."""
    return Bare(graph.points, [(edge.start, edge.end) for edge in graph.edges if edge.start != edge.end])


def is_bare_tree(bare, told):
    """Whether a value is a tree of lots of a bare graph."""
    return is_tree(Graph(bare.points, [Edge(one, ("skip",), other) for one, other in bare.pairs]), told)


def check_many(bare, most):
    """Raise TooMany for a bare graph of more points than that."""
    if bare.points > most:
        raise TooMany("points", most)


def parts_of(bare):
    """The Parts of a bare graph."""
    return Parts(bare.points, bare.pairs)


def lots_by(bare, order):
    """The tree of lots of the points as they are taken out in an order."""
    if not is_order(order, bare.points):
        raise BadRow(order)
    parts = parts_of(bare)
    index = {point: bare.points - 1 - at for at, point in enumerate(order)}
    lots = []
    gone = 0
    for point in order:
        near = points_in(neighbors_then(parts, point, gone))
        gone = gone | (1 << point)
        # Lots of points that are taken out later have lesser indices.
        parent = max([0] + [index[other] for other in near])
        lots.append(Lot(sorted(list(near) + [point]), parent if index[point] > 0 else None))
    return tuple(lots[::-1])


def least_width(bare):
    """The least width of all trees of lots of a bare graph."""
    check_many(bare, MOST_POINTS)
    width, _ = least_order(parts_of(bare), bare.points)
    return width


def least_lots(bare):
    """A tree of lots of the least width."""
    check_many(bare, MOST_POINTS)
    _, order = least_order(parts_of(bare), bare.points)
    return lots_by(bare, order)


def check_guards(guards):
    """Raise BadNumber for what is no number of guards."""
    if not is_natural(guards) or guards == 0:
        raise BadNumber("guards", guards)


def escapes(bare, guards):
    """The greatest escape from so many guards, as an ascending tuple of its states; () if there is none."""
    check_guards(guards)
    check_many(bare, MOST_POINTS)
    states = greatest_escape(parts_of(bare), bare.points, guards)
    told = [(points_in(mask), points_in(part)) for mask in list(states) for part in states[mask]]
    return tuple(sorted(told))


def is_state(bare, guards, value):
    """Whether a value is a state with at most so many guards."""
    if not isinstance(value, tuple) or len(value) != 2:
        return False
    if not all([is_ascending_row(points, bare.points) for points in value]) or len(value[0]) > guards:
        return False
    parts = parts_of(bare)
    return mask_of(value[1]) in parts.parts_within(parts.whole ^ mask_of(value[0]))


def is_escape(bare, guards, told):
    """Whether a value is an escape from so many guards."""
    check_guards(guards)
    if not isinstance(told, tuple) or len(told) == 0 or not all([is_state(bare, guards, value) for value in told]):
        return False
    states = {}
    for points, part in told:
        states.setdefault(mask_of(points), []).append(mask_of(part))
    parts = parts_of(bare)
    return all([lasts(parts, states, mask, part, guards) for mask in list(states) for part in states[mask]])


def narrow(bare, width):
    """A tree of lots of at most this width, or an escape from one guard more than that."""
    if not is_natural(width):
        raise BadNumber("width", width)
    check_many(bare, MOST_POINTS)
    least, order = least_order(parts_of(bare), bare.points)
    return lots_by(bare, order) if least <= width else escapes(bare, width + 1)


def is_nest(bare, told):
    """Whether a value is a nest of a bare graph."""
    if not isinstance(told, tuple) or len(told) == 0:
        return False
    if not all([is_ascending_row(points, bare.points) for points in told]):
        return False
    parts = parts_of(bare)
    sets = [mask_of(points) for points in told]
    return all([parts.holds(one) and all([parts.touch(one, other) for other in sets]) for one in sets])


def order_of(nest):
    """The order of a nest: the least number of points such that each of its sets has one of them."""
    # The smallest sets first, as they leave the least to try.
    sets = sorted([(len(points), mask_of(points)) for points in nest])
    most = 0
    while not can_be_hit([mask for _, mask in sets], most):
        most += 1
    return most


def nest(bare):
    """A nest whose order is the least width and one."""
    check_many(bare, MOST_NEST_POINTS)
    parts = parts_of(bare)
    width, _ = least_order(parts, bare.points)
    states = greatest_escape(parts, bare.points, width)
    choices = [states[mask] for mask in list(states) if many_in(mask) == width]
    return tuple([points_in(mask) for mask in each_once(touching_choice(parts, choices))])
