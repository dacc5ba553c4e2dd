"""Nets: points with states and ties with costs, and the least sums of all choices of states."""

from sevenpoints.errors import BadPoint, BadRow, Unlike
from sevenpoints.graphs import Edge, Graph
from sevenpoints.joining import Joining
from sevenpoints.lots import is_tree
from sevenpoints.rows import as_row, is_ascending, is_between, is_integer, is_natural, is_row


class Tie:
    """A tie between two points, with a row of costs for each state of the one."""

    def __init__(self, one, other, costs):
        self.one = as_row(one)
        self.other = as_row(other)
        self.costs = as_row(costs)

    def __eq__(self, other):
        return (isinstance(other, Tie) and self.one == other.one
                and self.other == other.other and self.costs == other.costs)


def are_states(value):
    """Whether a value is a row that tells how many states each point has."""
    return is_row(value) and len(value) > 0 and all([is_natural(many) and many > 0 for many in value])


def is_cost_row(value, many):
    """Whether a value is a tuple of so many costs."""
    if not isinstance(value, tuple) or len(value) != many:
        return False
    return all([cost is None or is_natural(cost) for cost in value])


def fits(tie, states):
    """Whether a value is a Tie between points with these states."""
    if not isinstance(tie, Tie):
        return False
    if not is_between(tie.one, 0, len(states) - 1) or not is_between(tie.other, 0, len(states) - 1):
        return False
    if not isinstance(tie.costs, tuple) or len(tie.costs) != states[tie.one]:
        return False
    return all([is_cost_row(row, states[tie.other]) for row in tie.costs])


class Net:
    """A net: how many states each point has, and its ties."""

    def __init__(self, states, ties):
        if not are_states(states):
            raise BadRow(states)
        if not is_row(ties) or not all([fits(tie, states) for tie in ties]):
            raise BadRow(ties)
        self.states = as_row(states)
        self.ties = as_row(ties)

    def __eq__(self, other):
        return isinstance(other, Net) and self.states == other.states and self.ties == other.ties


def is_choice(net, value):
    """Whether a value is a row with a state for each point."""
    if not is_row(value) or len(value) != len(net.states):
        return False
    return all([is_between(state, 0, many - 1) for state, many in zip(value, net.states)])


def sum_of(net, choice):
    """The sum of a choice, None if it is barred."""
    if not is_choice(net, choice):
        raise BadRow(choice)
    costs = [tie.costs[choice[tie.one]][choice[tie.other]] for tie in net.ties]
    return None if None in costs else sum(costs)


def joining_of(net, lots):
    """The Joining of a net and a tree of lots, Unlike if they are no such tree."""
    graph = Graph(len(net.states), [Edge(tie.one, ("skip",), tie.other) for tie in net.ties])
    if not is_tree(graph, lots):
        raise Unlike("lots")
    return Joining(net, lots)


def least_sum(net, lots):
    """The least sum of all choices, None if all are barred."""
    return joining_of(net, lots).least_tables()[0][0]


def least_choice(net, lots):
    """A choice with the least sum, None if all are barred."""
    joining = joining_of(net, lots)
    tables = joining.least_tables()
    return None if tables[0][0] is None else joining.choice_of(tables)


def least_bound(net, lots):
    """The bound whose entries are the least sums below the lots."""
    return joining_of(net, lots).least_tables()


def is_table(value):
    """Whether a value is a tuple of integers and None."""
    return isinstance(value, tuple) and all([entry is None or is_integer(entry) for entry in value])


def is_bound(net, lots, told):
    """Whether a value is a right bound."""
    joining = joining_of(net, lots)
    if not isinstance(told, tuple) or not all([is_table(table) for table in told]):
        return False
    return joining.has_shape(told) and joining.is_right(told)


def bound_sum(net, lots, told):
    """What a right bound tells of all choices: the first lot's entry."""
    if not is_bound(net, lots, told):
        raise Unlike("bound")
    return told[0][0]


def joined(one, other):
    """The net with the points and ties of two, those of the other one behind those of the one."""
    many = len(one.states)
    behind = [Tie(tie.one + many, tie.other + many, tie.costs) for tie in other.ties]
    return Net(one.states + other.states, list(one.ties) + behind)


def is_some_states(value, many):
    """Whether a value is a strictly ascending row of states, one or more, of a point that has so many."""
    if not is_row(value) or len(value) == 0 or not all([is_between(state, 0, many - 1) for state in value]):
        return False
    return is_ascending(value)


def narrowed(net, point, some):
    """The net in which a point has only some of its states."""
    if not is_between(point, 0, len(net.states) - 1):
        raise BadPoint(point)
    if not is_some_states(some, net.states[point]):
        raise BadRow(some)
    kept = [list(some) if at == point else list(range(many)) for at, many in enumerate(net.states)]
    ties = [Tie(tie.one, tie.other, [[tie.costs[one][other] for other in kept[tie.other]] for one in kept[tie.one]])
            for tie in net.ties]
    return Net([len(states) for states in kept], ties)
