"""Joining: the tables of a net, joined lot by lot along a tree of lots.

A part is a pair of some points and a row of costs, with a cost for each row of states at these points, in the order
in which the last point's state changes fastest. A cost of None is barred.
"""

from sevenpoints.lots import home_of, shared


def product_of(numbers):
    """The product of some numbers."""
    told = 1
    for number in numbers:
        told = told * number
    return told


def places_of(points, ranges, scope, states):
    """For each row of states at points, one of a range for each, the place of its cost in a part with this scope.

    Points of the scope are among the points; one that stands in it twice has the same state at both.
    """
    steps = {}
    step = 1
    for point in scope[::-1]:
        steps[point] = steps.get(point, 0) + step
        step = step * states[point]
    places = [0]
    for point, some in zip(points, ranges):
        ahead = [steps.get(point, 0) * state for state in some]
        places = [place + further for place in places for further in ahead]
    return places


def added(sums, costs, places):
    """Sums with a cost added to each one, which is barred if one of both is."""
    chosen = [costs[place] for place in places]
    return [None if one is None or cost is None else one + cost for one, cost in zip(sums, chosen)]


def least_of(sums):
    """The least of some sums, None if all are barred."""
    told = [one for one in sums if one is not None]
    return min(told) if told else None


class Joining:
    """A net and a tree of lots of it: for each lot its shared points, its children, and the parts at home there."""

    def __init__(self, net, lots):
        self.states = net.states
        self.lots = lots
        self.joints = [shared(lots, index) for index in range(len(lots))]
        self.children = [[] for _ in lots]
        for index in range(1, len(lots)):
            self.children[lots[index].parent].append(index)
        self.parts = [[] for _ in lots]
        for tie in net.ties:
            home = home_of(lots, tie.one, tie.other)
            self.parts[home].append(((tie.one, tie.other), [cost for row in tie.costs for cost in row]))

    def entries_of(self, index):
        """How many entries the table of a lot has."""
        return product_of([self.states[point] for point in self.joints[index]])

    def sums_at(self, index, points, ranges, tables):
        """For each row of states at the points of a lot the sum of its parts and its children's entries."""
        sums = [0] * product_of([len(some) for some in ranges])
        below = [(self.joints[child], tables[child]) for child in self.children[index]]
        for scope, costs in self.parts[index] + below:
            sums = added(sums, costs, places_of(points, ranges, scope, self.states))
        return sums

    def table_at(self, index, tables):
        """The least sums below a lot for all rows of states at its shared points, told those of its children."""
        joint = self.joints[index]
        inner = [point for point in self.lots[index].points if point not in joint]
        points = list(joint) + inner
        sums = self.sums_at(index, points, [list(range(self.states[point])) for point in points], tables)
        if not inner:
            return tuple(sums)
        many = product_of([self.states[point] for point in inner])
        return tuple([least_of(sums[at:at + many]) for at in range(0, len(sums), many)])

    def least_tables(self):
        """The least sums below each lot."""
        tables = [()] * len(self.lots)
        for index in reversed(range(len(self.lots))):
            tables[index] = self.table_at(index, tables)
        return tuple(tables)

    def choice_of(self, tables):
        """A choice with the least sum, told the least sums below each lot; not all are barred."""
        chosen = {}
        for index, lot in enumerate(self.lots):
            ranges = [[chosen[point]] if point in chosen else list(range(self.states[point])) for point in lot.points]
            sums = self.sums_at(index, lot.points, ranges, tables)
            at = sums.index(least_of(sums))
            for point, some in reversed(list(zip(lot.points, ranges))):
                chosen[point] = some[at % len(some)]
                at = at // len(some)
        return tuple([chosen[point] for point in range(len(self.states))])

    def has_shape(self, tables):
        """Whether tables have as many entries as they must have."""
        if len(tables) != len(self.lots):
            return False
        return all([len(table) == self.entries_of(index) for index, table in enumerate(tables)])

    def is_right(self, tables):
        """Whether no entry of tables of the right shape is greater than what it bounds."""
        for index, table in enumerate(tables):
            for entry, least in zip(table, self.table_at(index, tables)):
                if least is not None and (entry is None or entry > least):
                    return False
        return True
