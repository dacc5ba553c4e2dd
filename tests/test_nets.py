"""[25] to [31]: nets, the least sums of their choices, and bounds."""

import itertools
import random
import unittest

from sevenpoints.errors import BadPoint, BadRow, Unlike
from sevenpoints.graphs import Edge, Graph
from sevenpoints.lots import Lot, below, home_of, is_tree, shared
from sevenpoints.nets import (
    Net, Tie, bound_sum, is_bound, joined, least_bound, least_choice, least_sum, narrowed, sum_of,
)
from tests.checks import Case

OTHERS = (None, 0, True, "", "ab", b"", 1.5, {}, {1}, [], (), ((),), [()], (None,), object(), Net, Lot)


def lots(*rows):
    """A tuple of Lots."""
    return tuple(Lot(points, parent) for points, parent in rows)


def all_choices(net):
    """All choices of a net."""
    return list(itertools.product(*[range(many) for many in net.states]))


def least_of_all(net):
    """The least sum of all choices, looked at one by one."""
    return min((told for told in (sum_of(net, choice) for choice in all_choices(net)) if told is not None), default=None)


def graph_of_net(net):
    """The graph whose edges are the ties."""
    return Graph(len(net.states), [Edge(tie.one, ("skip",), tie.other) for tie in net.ties])


class Maker:
    """Nets and trees of lots of them at random, always the same ones from the same seed."""

    def __init__(self, seed):
        self.dice = random.Random(seed)

    def tree(self, points):
        """Lots with all these points: each lot has some points of its parent and some new ones."""
        fresh = list(range(points))
        self.dice.shuffle(fresh)
        rows = []
        while fresh or not rows:
            parent = self.dice.randrange(len(rows)) if rows else None
            told = [] if parent is None else self.dice.sample(rows[parent][0], self.dice.randint(0, len(rows[parent][0])))
            told = told[:3]
            for _ in range(self.dice.randint(0, 3)):
                if fresh and len(told) < 4:
                    told.append(fresh.pop())
            rows.append((sorted(told), parent))
        return lots(*rows)

    def cost(self, barred):
        if self.dice.random() < barred:
            return None
        return self.dice.choice((0, 1, 2, 3, 5, 8, 10 ** 20, 10 ** 21 - 1) if self.dice.random() < 0.2 else (0, 1, 2, 3))

    def net(self, points, tree, barred):
        """A net with ties within the lots of a tree."""
        states = [self.dice.randint(1, 3) for _ in range(points)]
        ties = []
        pairs = [(one, other) for lot in tree for one in lot.points for other in lot.points]
        for _ in range(self.dice.randint(0, 2 * points)):
            one, other = self.dice.choice(pairs)
            ties.append(Tie(one, other, [[self.cost(barred) for _ in range(states[other])] for _ in range(states[one])]))
        return Net(states, ties)

    def both(self):
        """A net and a tree of lots of it."""
        points = self.dice.randint(1, 7)
        tree = self.tree(points)
        return self.net(points, tree, self.dice.choice((0, 0.1, 0.4))), tree


# The points 0 - 1 - 2 in a row, and 3 by itself with a tie to itself.
NET = Net((2, 3, 2, 2), (
    Tie(0, 1, ((5, 1, None), (0, 7, 2))),
    Tie(2, 1, ((4, None, 6), (1, 1, 1))),
    Tie(3, 3, ((3, 0), (0, 9))),
))
TREE = lots(((0, 1), None), ((1, 2), 0), ((3,), 1))


class Objects(Case):

    def test_equality_of_ties(self):
        one = Tie(0, 1, ((1, 2), (3, None)))
        self.assertEqual(one, Tie(0, 1, [[1, 2], [3, None]]))
        self.assertFalse(one != Tie(0, 1, ([1, 2], (3, None))))
        for other in (Tie(1, 1, one.costs), Tie(0, 0, one.costs), Tie(0, 1, ((1, 2), (3, 0))), Tie(0, 1, ((1, 2),)), None,
                      (0, 1, one.costs), NET):
            self.assertFalse(one == other)
            self.assertTrue(one != other)

    def test_equality_of_nets(self):
        one = Net((1, 2), (Tie(0, 1, ((1, 2),)),))
        self.assertEqual(one, Net([1, 2], [Tie(0, 1, [[1, 2]])]))
        for other in (Net((1, 2), ()), Net((1, 2, 1), one.ties), Net((1, 2), (Tie(0, 1, ((1, 3),)),)), None, (1, 2),
                      Net((1, 2), one.ties + one.ties)):
            self.assertFalse(one == other)
            self.assertTrue(one != other)

    def test_what_is_given_is_kept_lists_as_tuples(self):
        costs = [[1, None], [2, (3, [4])]]
        tie = Tie("x", [1], costs)
        self.assertEqual((tie.one, tie.other, tie.costs), ("x", (1,), ((1, None), (2, (3, (4,))))))
        self.assertEqual(costs, [[1, None], [2, (3, [4])]])
        states, ties = [1, 2], [Tie(0, 1, [[0, 1]])]
        net = Net(states, ties)
        states.append(3)
        ties.append(None)
        self.assertEqual((net.states, len(net.ties)), ((1, 2), 1))
        self.assertIs(net.ties.__class__, tuple)
        self.assertIs(net.ties[0], ties[0])

    def test_no_states(self):
        for states in OTHERS + ((0,), (1, 0), (1, -1), (True,), ("1",), (1.0,), ((1,),), (1, None), [[1]], {1: 1}):
            self.refused_with(BadRow, "value", states, Net, states, None)
            self.refused_with(BadRow, "value", states, Net, states, ())

    def test_no_ties(self):
        for ties in OTHERS + ((3,), [None], {Tie: 1}):
            if ties not in ([], ()):
                self.refused_with(BadRow, "value", ties, Net, (1, 2), ties)
        self.assertEqual(Net((1,), []).ties, ())

    def test_ties_that_fit(self):
        for tie in (Tie(0, 1, [[1, 2, None]] * 2), Tie(1, 0, ([0, 10 ** 21], [0, 0], [None, None])), Tie(1, 1, [[0] * 3] * 3)):
            self.assertEqual(Net((2, 3), [tie]).ties, (tie,))

    def test_ties_that_do_not_fit(self):
        good = Tie(0, 1, ((1, 2, 3), (4, 5, 6)))
        rows = good.costs
        for tie in (Tie(0, 2, rows), Tie(2, 1, rows), Tie(7, 0, rows), Tie(-1, 1, rows), Tie(0, -1, rows), Tie(False, 1, rows), Tie(0, True, rows),
                    Tie("0", 1, rows), Tie(0, None, rows), Tie(1, 0, rows), Tie(0, 0, rows), Tie(1, 1, rows), Tie(0, 1, rows[:1]),
                    Tie(0, 1, rows + rows[:1]), Tie(0, 1, ()), Tie(0, 1, ((1, 2, 3), (4, 5))), Tie(0, 1, ((1, 2, 3), (4, 5, 6, 7))),
                    Tie(0, 1, ((1, 2, 3), (4, 5, -1))), Tie(0, 1, ((1, 2, 3), (4, 5, True))), Tie(0, 1, ((1, 2, 3), (4, 5, "6"))),
                    Tie(0, 1, ((1, 2, 3), (4, 5, 6.0))), Tie(0, 1, ((1, 2, 3), (4, 5, (6,)))), Tie(0, 1, ((1, 2, 3), None)),
                    Tie(0, 1, ((1, 2, 3), "456")), Tie(0, 1, None), Tie(0, 1, "ab"), Tie(0, 1, {0: rows[0], 1: rows[1]}), rows,
                    (0, 1, rows), None):
            ties = [good, tie]
            self.refused_with(BadRow, "value", ties, Net, (2, 3), ties)
        self.assertEqual(Net((2, 3), [good, good]).ties, (good, good))


class Sums(Case):

    def test_sums(self):
        for choice, told in (((0, 0, 0, 0), 12), ((0, 1, 1, 1), 11), ((1, 2, 0, 1), 17), ((1, 0, 1, 0), 4)):
            self.assertEqual(sum_of(NET, choice), told)
            self.assertEqual(sum_of(NET, list(choice)), told)
        for choice in ((0, 2, 1, 0), (0, 1, 0, 0), (0, 2, 0, 1)):
            self.assertIsNone(sum_of(NET, choice))
        self.assertEqual(sum_of(Net((5, 1), ()), (4, 0)), 0)

    def test_two_ties_on_one_pair(self):
        net = Net((2, 2), (Tie(0, 1, ((1, 2), (3, None))), Tie(1, 0, ((10, None), (20, 30))), Tie(0, 1, ((5, 5), (5, 5)))))
        self.assertEqual([sum_of(net, choice) for choice in all_choices(net)], [16, 27, None, None])
        told = lots(((0, 1), None))
        self.assertEqual((least_sum(net, told), least_choice(net, told)), (16, (0, 0)))

    def test_ties_from_a_point_to_itself_count_the_diagonal_alone(self):
        net = Net((3,), (Tie(0, 0, ((7, 0, 0), (0, None, 0), (None, None, 9))),))
        self.assertEqual([sum_of(net, (state,)) for state in range(3)], [7, None, 9])
        self.assertEqual(least_sum(net, lots(((0,), None))), 7)
        self.assertEqual(least_choice(net, lots(((), None), ((0,), 0))), (0,))

    def test_wrong_choices(self):
        for choice in OTHERS + ((0, 0, 0), (0, 0, 0, 0, 0), (2, 0, 0, 0), (0, 3, 0, 0), (0, -1, 0, 0), (False, 0, 0, 0),
                                (0, 0, 0, None), ("0", 0, 0, 0), (0.0, 0, 0, 0), [[0, 0, 0, 0]], {0: 1, 1: 1, 2: 1, 3: 1}):
            self.refused_with(BadRow, "value", choice, sum_of, NET, choice)

    def test_the_least_sum(self):
        self.assertEqual(least_sum(NET, TREE), 4)
        self.assertEqual(least_choice(NET, TREE), (1, 0, 1, 0))
        self.assertEqual(least_sum(Net((4, 1), ()), lots(((0,), None), ((1,), 0))), 0)

    def test_all_are_barred(self):
        for costs in (((None, None), (None, None)),):
            net = Net((2, 2, 3), (Tie(0, 1, costs), Tie(1, 2, ((0, 1, 2), (1, 1, 1)))))
            told = lots(((0, 1), None), ((1, 2), 0))
            self.assertIsNone(least_sum(net, told))
            self.assertIsNone(least_choice(net, told))
        # No tie is barred throughout, but each choice is.
        net = Net((2, 2, 2), (Tie(0, 1, ((0, None), (None, 0))), Tie(1, 2, ((0, None), (None, 0))),
                              Tie(2, 0, ((None, 0), (0, None)))))
        self.assertIsNone(least_sum(net, lots(((0, 1, 2), None))))
        self.assertIsNone(least_choice(net, lots(((0,), None), ((0, 1, 2), 0))))

    def test_against_all_choices(self):
        maker = Maker(81)
        barred = 0
        for _ in range(400):
            net, tree = maker.both()
            self.assertIs(is_tree(graph_of_net(net), tree), True)
            told = least_sum(net, tree)
            self.assertEqual(told, least_of_all(net))
            choice = least_choice(net, tree)
            barred += told is None
            if told is None:
                self.assertIsNone(choice)
            else:
                self.assertIs(choice.__class__, tuple)
                self.assertEqual(sum_of(net, choice), told)
        self.assertTrue(10 < barred < 200)

    def test_great_costs(self):
        great = 10 ** 21 - 1
        net = Net((2, 2), (Tie(0, 1, ((great, great), (great - 1, great))), Tie(1, 1, ((1, 0), (0, 0)))))
        self.assertEqual(least_sum(net, lots(((0, 1), None))), great)

    def test_sixty_points_in_a_ring(self):
        dice = random.Random(82)
        rows = [[[dice.randrange(100) for _ in range(5)] for _ in range(5)] for _ in range(60)]
        net = Net([5] * 60, [Tie(at, (at + 1) % 60, rows[at]) for at in range(60)])
        tree = [((0, 1, 2), None)] + [((0, at, at + 1), at - 2) for at in range(2, 59)]
        told = least_sum(net, lots(*tree))
        found = []
        for first in range(5):
            ahead = [0 if state == first else 10 ** 9 for state in range(5)]
            for at in range(60):
                ahead = [min(ahead[state] + rows[at][state][after] for state in range(5)) for after in range(5)]
            found.append(ahead[first])
        self.assertEqual(told, min(found))
        self.assertEqual(sum_of(net, least_choice(net, lots(*tree))), told)

    def test_lots_of_twenty_thousand_rows(self):
        dice = random.Random(83)
        states = (20, 25, 40)
        ties = [Tie(one, other, [[dice.randrange(1000) for _ in range(states[other])] for _ in range(states[one])])
                for one, other in ((0, 1), (1, 2), (2, 0))]
        net = Net(states, ties)
        tree = lots(((0, 1, 2), None), ((0, 1, 2), 0), ((1, 2), 1))
        told = least_sum(net, tree)
        self.assertEqual(told, min(
            ties[0].costs[one][other] + ties[1].costs[other][third] + ties[2].costs[third][one]
            for one in range(20) for other in range(25) for third in range(40)))

    def test_what_is_no_tree_of_lots_of_the_net(self):
        wrong = [list(TREE), TREE[:2], TREE[:1], (), TREE + (None,), lots(((0, 1), None), ((1, 2), 0), ((3,), 3)),
                 lots(((0, 1), None), ((2,), 0), ((3,), 1)), lots(((0, 1), 0), ((1, 2), 0), ((3,), 1)),
                 lots(((0, 1), None), ((1, 2), 0), ((3, 4), 1)), lots(((0,), None), ((0, 1), 0), ((2,), 1), ((1, 2), 2), ((3,), 0))]
        for told in wrong + list(OTHERS):
            for call, more in ((least_sum, ()), (least_choice, ()), (least_bound, ()), (is_bound, (None,)), (bound_sum, (None,))):
                self.refused(Unlike, {"what": "lots"}, call, NET, told, *more)


def bound_by_hand(net, tree):
    """The least sums below each lot, choice by choice."""
    homes = [home_of(tree, tie.one, tie.other) for tie in net.ties]
    tables = []
    for index in range(len(tree)):
        inside = below(tree, index)
        ties = [tie for tie, home in zip(net.ties, homes) if home in inside]
        hidden = sorted({point for at in inside for point in tree[at].points})
        joint = shared(tree, index)
        entries = {row: None for row in itertools.product(*[range(net.states[point]) for point in joint])}
        for row in itertools.product(*[range(net.states[point]) for point in hidden]):
            held = dict(zip(hidden, row))
            costs = [tie.costs[held[tie.one]][held[tie.other]] for tie in ties]
            key = tuple(held[point] for point in joint)
            if None not in costs and (entries[key] is None or sum(costs) < entries[key]):
                entries[key] = sum(costs)
        tables.append(tuple(entries.values()))
    return tuple(tables)


def right_by_hand(net, tree, bound):
    """Whether a bound is right, row by row as the document says."""
    homes = [home_of(tree, tie.one, tie.other) for tie in net.ties]

    def entry(index, held):
        at = 0
        for point in shared(tree, index):
            at = at * net.states[point] + held[point]
        return bound[index][at]

    for index, lot in enumerate(tree):
        for row in itertools.product(*[range(net.states[point]) for point in lot.points]):
            held = dict(zip(lot.points, row))
            parts = [tie.costs[held[tie.one]][held[tie.other]] for tie, home in zip(net.ties, homes) if home == index]
            parts += [entry(at, held) for at, other in enumerate(tree) if other.parent == index]
            own = entry(index, held)
            if None not in parts and (own is None or sum(parts) < own):
                return False
    return True


def with_entry(bound, index, at, entry):
    """A bound with one entry exchanged."""
    table = bound[index]
    return bound[:index] + (table[:at] + (entry,) + table[at + 1:],) + bound[index + 1:]


class Bounds(Case):

    def test_the_least_bound(self):
        self.assertEqual(least_bound(NET, TREE), ((4,), (4, 4, 4), (3,)))
        tree = lots(((3,), None), ((0, 1, 2), 0), ((1, 2), 1))
        self.assertEqual(least_bound(NET, tree), ((4,), (1,), (0, 0, 0, 0, 0, 0)))
        tree = lots(((2,), None), ((1, 2), 0), ((0, 1), 1), ((3,), 1))
        self.assertEqual(least_bound(NET, tree), ((4,), (7, 4), (0, 1, 2), (3,)))

    def test_the_last_point_of_the_shared_ones_changes_fastest(self):
        net = Net((2, 3), (Tie(1, 0, ((1, 2), (3, 4), (5, None))),))
        tree = lots(((0, 1), None), ((0, 1), 0), ((0,), 1), ((1,), 1))
        told = least_bound(net, tree)
        self.assertEqual(told, ((1,), (0,) * 6, (0, 0), (0, 0, 0)))
        net = Net((2, 3, 1), (Tie(1, 2, ((1,), (2,), (4,))), Tie(0, 2, ((10,), (None,)))))
        tree = lots(((0, 1), None), ((0, 1, 2), 0))
        self.assertEqual(least_bound(net, tree), ((11,), (11, 12, 14, None, None, None)))

    def test_entry_by_entry_against_all_choices_below(self):
        maker = Maker(84)
        for _ in range(250):
            net, tree = maker.both()
            told = least_bound(net, tree)
            self.assertEqual(told, bound_by_hand(net, tree))
            self.assertIs(is_bound(net, tree, told), True)
            self.assertTrue(all(table.__class__ is tuple for table in told))
            self.assertEqual(bound_sum(net, tree, told), least_sum(net, tree))

    def test_the_first_entry_is_at_most_the_least_sum(self):
        maker = Maker(85)
        for _ in range(150):
            net, tree = maker.both()
            told = least_bound(net, tree)
            least = least_sum(net, tree)
            for _ in range(10):
                other = tuple(tuple(None if entry is None and maker.dice.random() < 0.7 else
                                    (entry or 0) - maker.dice.choice((0, 0, 0, 1, 2)) for entry in table) for table in told)
                right = is_bound(net, tree, other)
                self.assertEqual(right, right_by_hand(net, tree, other))
                if right and least is not None:
                    self.assertLessEqual(bound_sum(net, tree, other), least)

    def test_less_bounds(self):
        told = least_bound(NET, TREE)
        for right, other in ((True, ((0,), (4, 4, 4), (3,))), (True, ((-5,), (4, 0, 4), (3,))), (True, ((3,), (3, 3, 3), (2,))),
                             (False, ((3,), (4, 4, 4), (2,))), (True, ((4,), (4, 4, 4), (3,))), (False, ((4,), (4, 4, 4), (-1,))),
                             (True, ((-10 ** 30,), (-6, -6, -6), (-7,))), (False, ((-10 ** 30,), (-6, -5, -6), (-7,))),
                             (False, ((3,), (2, 3, 3), (2,)))):
            self.assertIs(is_bound(NET, TREE, other), right)
            self.assertIs(right_by_hand(NET, TREE, other), right)
            if right:
                self.assertEqual(bound_sum(NET, TREE, other), other[0][0])
            else:
                self.refused(Unlike, {"what": "bound"}, bound_sum, NET, TREE, other)
        self.assertIs(is_bound(NET, TREE, told), True)

    def test_one_entry_made_greater_less_or_none(self):
        maker = Maker(86)
        wrong = 0
        for _ in range(120):
            net, tree = maker.both()
            told = least_bound(net, tree)
            for index, table in enumerate(told):
                for at, entry in enumerate(table):
                    for other in (None, 0, -3, (entry or 0) + 1, (entry or 0) - 1, 10 ** 25):
                        changed = with_entry(told, index, at, other)
                        right = is_bound(net, tree, changed)
                        self.assertEqual(right, right_by_hand(net, tree, changed))
                        wrong += not right
                    if entry is not None:
                        self.assertIs(is_bound(net, tree, with_entry(told, index, at, entry + 1)), False)
                        self.assertIs(is_bound(net, tree, with_entry(told, index, at, None)), False)
        self.assertGreater(wrong, 500)

    def test_an_entry_that_may_be_anything(self):
        net = Net((2, 2), (Tie(0, 1, ((0, 3), (None, None))),))
        tree = lots(((0,), None), ((0, 1), 0))
        self.assertEqual(least_bound(net, tree), ((0,), (0, None)))
        for entry in (None, 0, 17, -17):
            told = ((0,), (0, entry))
            self.assertEqual(is_bound(net, tree, told), entry is None or entry >= 0)
        self.assertIs(is_bound(net, tree, ((-17,), (0, -17))), True)
        # A child's entry of None asks nothing, so all is let by behind one that is right.
        barred = Net((1, 1), (Tie(0, 1, ((None,),)),))
        for first in (None, 5, -5):
            self.assertIs(is_bound(barred, tree, ((first,), (None,))), True)
            self.assertEqual(bound_sum(barred, tree, ((first,), (None,))), first)
            self.assertIs(is_bound(barred, tree, ((first,), (3,))), first is not None and first <= 3)

    def test_other_forms(self):
        told = least_bound(NET, TREE)
        for table in ((4, 4), (4, 4, 4, 4), (), [4, 4, 4], (4, 4, True), (4, 4, "4"), (4, 4, 4.0), (4, 4, (4,)), None, 4, "444",
                      {0: 4, 1: 4, 2: 4}, ((4,), (4,), (4,))):
            self.assertIs(is_bound(NET, TREE, ((0,), table, told[2])), False)
        self.assertIs(is_bound(NET, TREE, ((0,), (4, 4, 1), told[2])), True)
        for other in OTHERS + (list(told), told[:2], told + ((),), told + ((0,),), (told,), told[0], dict(enumerate(told)),
                               ((True,), (4, 4, 4), (3,)), ((0,), (0, 0, 0), (False,)), ((), (4, 4, 4), (3,))):
            self.assertIs(is_bound(NET, TREE, other), False)
            self.refused(Unlike, {"what": "bound"}, bound_sum, NET, TREE, other)
        self.assertIs(is_bound(NET, TREE, told), True)

    def test_ties_are_counted_in_their_home_alone(self):
        # The pair of the tie is in all three lots; the first one is its home.
        net = Net((2, 2), (Tie(1, 0, ((4, 6), (5, 7))),))
        tree = lots(((0, 1), None), ((0, 1), 0), ((0, 1), 1))
        self.assertEqual(least_bound(net, tree), ((4,), (0,) * 4, (0,) * 4))


class Joined(Case):

    def test_both_nets_stand_side_by_side(self):
        one = Net((2, 1), (Tie(0, 1, ((1,), (2,))), Tie(1, 1, ((3,),))))
        other = Net((3,), (Tie(0, 0, ((4, 5, 6),) * 3),))
        self.assertEqual(joined(one, other), Net((2, 1, 3), one.ties + (Tie(2, 2, ((4, 5, 6),) * 3),)))
        self.assertEqual(joined(other, one), Net((3, 2, 1), other.ties + (Tie(1, 2, ((1,), (2,))), Tie(2, 2, ((3,),)))))
        self.assertEqual(other.ties[0].one, 0)

    def test_sums_add_up(self):
        maker = Maker(87)
        for _ in range(60):
            one, tree = maker.both()
            other, more = maker.both()
            both = joined(one, other)
            self.assertEqual(both.states, one.states + other.states)
            many = len(one.states)
            whole = tree + tuple(Lot([point + many for point in lot.points],
                                     0 if lot.parent is None else lot.parent + len(tree)) for lot in more)
            sums = [least_sum(one, tree), least_sum(other, more)]
            self.assertEqual(least_sum(both, whole), None if None in sums else sum(sums))
            choice = tuple(maker.dice.randrange(states) for states in both.states)
            parts = [sum_of(one, choice[:many]), sum_of(other, choice[many:])]
            self.assertEqual(sum_of(both, choice), None if None in parts else sum(parts))

    def test_narrowed(self):
        told = narrowed(NET, 1, [0, 2])
        self.assertEqual(told, Net((2, 2, 2, 2), (Tie(0, 1, ((5, None), (0, 2))), Tie(2, 1, ((4, 6), (1, 1))), NET.ties[2])))
        self.assertEqual(narrowed(NET, 3, (1,)), Net((2, 3, 2, 1), NET.ties[:2] + (Tie(3, 3, ((9,),)),)))
        self.assertEqual(narrowed(NET, 0, (1,)).ties[0], Tie(0, 1, ((0, 7, 2),)))
        self.assertEqual(narrowed(NET, 2, (0, 1)), NET)

    def test_sums_of_narrowed_nets(self):
        maker = Maker(88)
        for _ in range(80):
            net, tree = maker.both()
            point = maker.dice.randrange(len(net.states))
            some = sorted(maker.dice.sample(range(net.states[point]), maker.dice.randint(1, net.states[point])))
            told = narrowed(net, point, some)
            for choice in all_choices(told):
                first = choice[:point] + (some[choice[point]],) + choice[point + 1:]
                self.assertEqual(sum_of(told, choice), sum_of(net, first))
            self.assertEqual(least_sum(told, tree), least_of_all(told))

    def test_errors_in_their_order(self):
        for point in (-1, 4, True, None, "0", 0.0, (0,), [1]):
            self.refused_with(BadPoint, "value", point, narrowed, NET, point, None)
        for some in OTHERS + ((1, 0), (0, 0), (0, 3), (-1, 0), (False,), (True,), (0, "1"), (0, None), (0.0,), [[0]], {0: 1}):
            self.refused_with(BadRow, "value", some, narrowed, NET, 1, some)
        self.refused_with(BadRow, "value", 2, narrowed, NET, 0, 2)


if __name__ == "__main__":
    unittest.main()
