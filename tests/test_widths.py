"""[55] to [58]: bare graphs, their widths, escapes and nests."""

import itertools
import random
import unittest

from sevenpoints.errors import BadNumber, BadRow, TooMany
from sevenpoints.graphs import Edge, Graph, graph_of
from sevenpoints.lots import Lot, lots_of, width
from sevenpoints.widths import (
    Bare, bare_of, escapes, is_bare_tree, is_escape, is_nest, least_lots, least_width, lots_by, narrow, nest, order_of,
)
from tests.checks import Case
from tests.samples import EMPTY, GCD, STEPS, programs
from tests.test_moves import OTHERS

NO_NUMBERS = (None, -1, True, False, "1", 1.0, (1,), [])


def every_pair(points):
    """All pairs of unlike points."""
    return list(itertools.combinations(range(points), 2))


def all_bares(points):
    """All bare graphs of so many points."""
    pairs = every_pair(points)
    return [Bare(points, some) for many in range(len(pairs) + 1) for some in itertools.combinations(pairs, many)]


def some_bares(seed, points, many):
    """Bare graphs at random."""
    dice = random.Random(seed)
    return [Bare(points, [pair for pair in every_pair(points) if dice.random() < chance])
            for chance in (0.2, 0.3, 0.4, 0.5, 0.7, 0.9) for _ in range(many)]


def ring(points):
    """A bare graph of points in a ring."""
    return Bare(points, [(point, (point + 1) % points) for point in range(points)])


def grid(rows, columns):
    """A bare graph of points in rows and columns."""
    pairs = [(at, at + 1) for at in range(rows * columns) if (at + 1) % columns] + [(at, at + columns) for at in range((rows - 1) * columns)]
    return Bare(rows * columns, pairs)


FULL = [Bare(points, every_pair(points)) for points in range(1, 13)]
TWO_SQUARES = Bare(8, [pair for pair in every_pair(8) if pair[0] // 4 == pair[1] // 4])


def neighbors(bare, points):
    """All points that a pair joins with one of some points."""
    return {other for pair in bare.pairs for one, other in (pair, pair[::-1]) if one in points}


def part_of(bare, point, within):
    """The points that can be come to from a point along pairs within a set."""
    found = {point}
    while True:
        more = (neighbors(bare, found) & within) - found
        if not more:
            return frozenset(found)
        found |= more


def parts_of(bare, within):
    """The parts of a set."""
    return {part_of(bare, point, set(within)) for point in within}


def order_width(bare, order):
    """The width of the tree of lots of an order: points are taken out, their neighbors become neighbors."""
    near = {point: neighbors(bare, {point}) for point in order}
    widest = 0
    for point in order:
        widest = max(widest, len(near[point]))
        for one in near[point]:
            near[one] = (near[one] | near[point]) - {one, point}
    return widest


def width_by_orders(bare):
    """The least width over all orders."""
    return min(order_width(bare, order) for order in itertools.permutations(range(bare.points)))


def goes_on(bare, states, guards, part, most):
    """Whether a state keeps the two rules of an escape."""
    if not all(any(guard == guards - {point} and part <= other for guard, other in states) for point in guards):
        return False
    fresh = set(range(bare.points)) - guards if len(guards) < most else set()
    return all(any(guard == guards | {point} and other <= part for guard, other in states) for point in fresh)


def escapes_by_hand(bare, most):
    """The greatest escape, by taking out states that do not keep the rules until all do."""
    points = range(bare.points)
    states = {(frozenset(guards), part) for many in range(most + 1) for guards in itertools.combinations(points, many)
              for part in parts_of(bare, set(points) - set(guards))}
    while True:
        kept = {state for state in states if goes_on(bare, states, *state, most)}
        if kept == states:
            return tuple(sorted((tuple(sorted(guards)), tuple(sorted(part))) for guards, part in states))
        states = kept


class Bares(Case):

    def test_attributes(self):
        bare = Bare(4, [[3, 1], (0, 2), (1, 3), (2, 1), (1, 2), (1, 2)])
        self.assertEqual((bare.points, bare.pairs), (4, ((0, 2), (1, 2), (1, 3))))
        self.assertEqual((Bare(1, []).points, Bare(1, ()).pairs), (1, ()))

    def test_equality(self):
        one = Bare(3, ((0, 1), (1, 2)))
        self.assertEqual(one, Bare(3, [(2, 1), (1, 0), (0, 1)]))
        self.assertFalse(one != Bare(3, [(2, 1), (1, 0), (0, 1)]))
        for other in (Bare(4, ((0, 1), (1, 2))), Bare(3, ((0, 1),)), Bare(3, ((0, 1), (0, 2))), None, (3, ((0, 1), (1, 2)))):
            self.assertFalse(one == other)
            self.assertTrue(one != other)

    def test_errors_in_their_order(self):
        for points in NO_NUMBERS + (0,):
            self.refused(BadNumber, {"what": "points", "value": points}, Bare, points, None)
        for pairs in (None, 3, "ab", {}, (3,), ("ab",), ((0,),), ((0, 1, 2),), ((0, 0),), ((0, 3),), ((3, 0),), ((4, 0),), ((0, -1),), ((-1, 0),), ((0, True),), ((False, 1),),
                      ((0, "1"),), ((0, None),), ((0, 1.0),), ((0, 1), None), ((0, 1), (2, 2)), {0: 1}, (((0,), 1),)):
            self.refused_with(BadRow, "value", pairs, Bare, 3, pairs)

    def test_of_graphs(self):
        graph = Graph(4, [Edge(0, ("skip",), 3), Edge(3, ("skip",), 0), Edge(2, ("give", 0), 1), Edge(3, ("skip",), 3), Edge(0, ("skip",), 3)])
        self.assertEqual(bare_of(graph), Bare(4, ((0, 3), (1, 2))))
        for program in [EMPTY, GCD, STEPS] + programs(60, 20):
            graph = graph_of(program)
            told = bare_of(graph)
            self.assertEqual(told.points, graph.points)
            self.assertEqual(told.pairs, tuple(sorted({tuple(sorted((edge.start, edge.end))) for edge in graph.edges if edge.start != edge.end})))
            self.assertIs(is_bare_tree(told, lots_of(program)), True)


class Trees(Case):

    def by_hand(self, bare, lots):
        """Whether Lots with right points and parents are a tree of lots."""
        points = range(bare.points)
        if not all(any(set(pair) <= set(lot.points) for lot in lots) for pair in bare.pairs):
            return False
        ways = []
        for lot, _ in enumerate(lots):
            ways.append([lot] if lots[lot].parent is None else [lot] + ways[lots[lot].parent])
        for point in points:
            having = [at for at, lot in enumerate(lots) if point in lot.points]
            if not having:
                return False
            for one, other in itertools.combinations(having, 2):
                shared = [at for at in ways[one] if at in ways[other]]
                between = ways[one][:ways[one].index(shared[0]) + 1] + ways[other][:ways[other].index(shared[0])]
                if not all(point in lots[at].points for at in between):
                    return False
        return True

    def test_against_the_definition(self):
        dice = random.Random(61)
        right = 0
        for _ in range(1500):
            points = dice.randint(1, 4)
            bare = Bare(points, [pair for pair in every_pair(points) if dice.random() < 0.5])
            lots = tuple(Lot([point for point in range(points) if dice.random() < 0.6], dice.randrange(at) if at else None)
                         for at in range(dice.randint(1, 4)))
            expected = self.by_hand(bare, lots)
            self.assertIs(is_bare_tree(bare, lots), expected)
            right += expected
        self.assertGreater(right, 80)

    def test_any_other_values(self):
        bare = ring(4)
        lots = lots_by(bare, (0, 1, 2, 3))
        self.assertIs(is_bare_tree(bare, lots), True)
        for value in OTHERS + (list(lots), lots[:1], lots + (None,), lots + (((0,), 0),), (Lot((0, 1, 2, 3), 0),), (Lot((0, 1, 2, 3), -1),),
                               (Lot((0, 1, 2, 3), False),), (Lot((0, 1, 2, 4), None),), (Lot((0, 2, 1, 3), None),), (Lot((0, 1, 2, 3, 3), None),),
                               (Lot((0, True, 2, 3), None),), (Lot((0, 1, 2, 3, 4), None),), (Lot(None, None),), (Lot("0123", None),),
                               (Lot((0, 1, 2, 3), None), Lot((0,), 1)), (Lot((0, 1, 2, 3), None), Lot((0,), None)), ()):
            self.assertIs(is_bare_tree(bare, value), False)
        self.assertIs(is_bare_tree(bare, (Lot((0, 1, 2, 3), None), Lot((0,), 0))), True)


class Orders(Case):

    def test_by_hand(self):
        bare = Bare(5, ((0, 1), (1, 2), (2, 3), (0, 3)))
        # 4 has no neighbors; 0 makes 1 and 3 neighbors.
        self.assertEqual(lots_by(bare, [4, 0, 2, 1, 3]),
                         (Lot((3,), None), Lot((1, 3), 0), Lot((1, 2, 3), 1), Lot((0, 1, 3), 1), Lot((4,), 0)))
        self.assertEqual(lots_by(bare, (0, 1, 2, 3, 4)),
                         (Lot((4,), None), Lot((3,), 0), Lot((2, 3), 1), Lot((1, 2, 3), 2), Lot((0, 1, 3), 3)))
        self.assertEqual(lots_by(Bare(1, ()), (0,)), (Lot((0,), None),))

    def lots_by_hand(self, bare, order):
        """The lots, told from the definition."""
        near = {point: neighbors(bare, {point}) for point in order}
        index = {point: len(order) - 1 - at for at, point in enumerate(order)}
        lots = []
        for at, point in enumerate(order):
            others = [other for other in order if other in near[point]]
            parent = index[others[0]] if others else 0
            lots.append(Lot(sorted(others + [point]), None if at == len(order) - 1 else parent))
            for one in others:
                near[one] = (near[one] | near[point]) - {one, point}
        return tuple(lots[::-1])

    def test_all_orders_of_small_graphs(self):
        bares = [bare for points in range(1, 5) for bare in all_bares(points)] + some_bares(62, 5, 2)
        for bare in bares:
            for order in itertools.permutations(range(bare.points)):
                told = lots_by(bare, order)
                self.assertEqual(told, self.lots_by_hand(bare, order))
                self.assertIs(is_bare_tree(bare, told), True)
                self.assertEqual(width(told), order_width(bare, order))

    def test_twelve_points(self):
        dice = random.Random(63)
        for bare in some_bares(63, 12, 4):
            order = dice.sample(range(12), 12)
            self.assertEqual(lots_by(bare, order), self.lots_by_hand(bare, order))
            self.assertIs(is_bare_tree(bare, lots_by(bare, order)), True)

    def test_errors(self):
        bare = ring(3)
        for order in (None, 3, "012", (), (0, 1), (0, 1, 2, 2), (0, 1, 1), (0, 1, 3), (-1, 0, 1), (0, True, 2), (0, 1, "2"), (0, 1, None),
                      (0, 1, 2, 3), {0: 1, 1: 2, 2: 3}, [[0, 1, 2]], (0.0, 1, 2)):
            self.refused_with(BadRow, "value", order, lots_by, bare, order)


class Widths(Case):

    def test_by_hand(self):
        for bare, least in ((Bare(1, ()), 0), (Bare(7, ()), 0), (Bare(2, ((0, 1),)), 1), (Bare(6, [(0, at) for at in range(1, 6)]), 1),
                            (ring(3), 2), (ring(10), 2), (grid(3, 3), 3), (grid(2, 5), 2), (FULL[9], 9), (TWO_SQUARES, 3)):
            self.assertEqual(least_width(bare), least)
            told = least_lots(bare)
            self.assertIs(is_bare_tree(bare, told), True)
            self.assertEqual(width(told), least)

    def test_against_all_orders(self):
        for bare in [bare for points in range(1, 5) for bare in all_bares(points)] + some_bares(64, 6, 6):
            self.assertEqual(least_width(bare), width_by_orders(bare))
            told = least_lots(bare)
            self.assertIs(is_bare_tree(bare, told), True)
            self.assertEqual(width(told), least_width(bare))

    def test_too_many_points(self):
        for call in (least_width, least_lots):
            self.refused(TooMany, {"what": "points", "limit": 10}, call, Bare(11, ()))
            self.refused(TooMany, {"what": "points", "limit": 10}, call, FULL[11])
            call(FULL[9])
            call(Bare(10, ()))


class Escapes(Case):

    def test_by_hand(self):
        self.assertEqual(escapes(Bare(1, ()), 1), ())
        self.assertEqual(escapes(Bare(2, ((0, 1),)), 1), (((), (0, 1)), ((0,), (1,)), ((1,), (0,))))
        self.assertEqual(escapes(Bare(2, ((0, 1),)), 2), ())
        # Two points of a line of four: the runner is caught by two guards, not by one.
        line = Bare(3, ((0, 1), (1, 2)))
        self.assertEqual(escapes(line, 1), (((), (0, 1, 2)), ((0,), (1, 2)), ((1,), (0,)), ((1,), (2,)), ((2,), (0, 1))))
        self.assertEqual(escapes(line, 2), ())
        self.assertEqual(escapes(FULL[3], 3), tuple(sorted((guards, tuple(point for point in range(4) if point not in guards))
                                                           for many in range(4) for guards in itertools.combinations(range(4), many))))

    def test_against_the_definition(self):
        some = 0
        for bare in [bare for points in range(1, 5) for bare in all_bares(points)] + some_bares(65, 6, 2):
            for guards in range(1, 5):
                told = escapes(bare, guards)
                self.assertEqual(told, escapes_by_hand(bare, guards))
                self.assertEqual(told == (), least_width(bare) < guards)
                self.assertIs(is_escape(bare, guards, told), told != ())
                some += told != ()
        self.assertGreater(some, 100)

    def test_ten_points(self):
        for bare in some_bares(66, 10, 1) + [grid(2, 5), ring(10), FULL[9], Bare(10, ())]:
            for guards in range(1, 5):
                told = escapes(bare, guards)
                self.assertEqual(told == (), least_width(bare) < guards)
                self.assertEqual(told, tuple(sorted(set(told))))
                self.assertIs(is_escape(bare, guards, told), told != ())

    def test_more_guards_than_points(self):
        self.assertEqual(escapes(ring(4), 4), ())
        self.assertEqual(escapes(ring(4), 400), ())

    def test_errors_in_their_order(self):
        for guards in NO_NUMBERS + (0,):
            self.refused(BadNumber, {"what": "guards", "value": guards}, escapes, FULL[10], guards)
            self.refused(BadNumber, {"what": "guards", "value": guards}, is_escape, FULL[10], guards, None)
        self.refused(TooMany, {"what": "points", "limit": 10}, escapes, FULL[10], 1)
        self.assertNotEqual(escapes(FULL[9], 1), ())
        # Judges let more points by.
        everywhere = tuple([((), tuple(range(12)))] + [((at,), tuple(other for other in range(12) if other != at)) for at in range(12)])
        self.assertIs(is_escape(FULL[11], 1, everywhere), True)

    def test_told_otherwise(self):
        dice = random.Random(67)
        for bare, guards in ((ring(5), 2), (grid(3, 3), 3), (TWO_SQUARES, 3), (FULL[4], 4)):
            told = list(escapes(bare, guards))
            dice.shuffle(told)
            self.assertIs(is_escape(bare, guards, tuple(told)), True)
            self.assertIs(is_escape(bare, guards, tuple(told + told[:3])), True)
            self.assertIs(is_escape(bare, guards, told), False)

    def test_lesser_escapes(self):
        # In two squares the runner lasts in either one alone.
        told = escapes(TWO_SQUARES, 3)
        one = tuple(state for state in told if state[1] and state[1][0] < 4)
        self.assertLess(len(one), len(told))
        self.assertIs(is_escape(TWO_SQUARES, 3, one), True)
        self.assertIs(is_escape(TWO_SQUARES, 3, ()), False)

    def test_a_state_left_out_or_bent(self):
        left_out = 0
        for bare, guards in ((ring(4), 2), (FULL[3], 3), (Bare(3, ((0, 1), (1, 2))), 1), (Bare(5, ((0, 1), (1, 2), (2, 0), (3, 4))), 2)):
            told = escapes(bare, guards)
            for at, state in enumerate(told):
                rest = told[:at] + told[at + 1:]
                states = {(frozenset(one), frozenset(part)) for one, part in rest}
                expected = all(goes_on(bare, states, *one, guards) for one in states)
                self.assertIs(is_escape(bare, guards, rest), expected)
                left_out += not expected
                for bent in (None, 3, state[:1], state + ((),), list(state), [], (list(state[0]), state[1]), (state[0], list(state[1])),
                             (state[0], state[1][:-1]), (state[0], state[1] + state[1][-1:]), (state[0], state[1][::-1] + (9,)), (state[0], ()),
                             (state[0] + (9,), state[1]), (state[0] + (-1,), state[1]), (tuple(map(str, state[0])) + ("x",), state[1]),
                             (state[0], tuple(point + 0.0 for point in state[1])), (state[0], None), (None, state[1]), ("", state[1])):
                    self.assertIs(is_escape(bare, guards, told + (bent,)), False, bent)
        self.assertGreater(left_out, 10)

    def test_bools_are_no_points(self):
        told = escapes(ring(3), 1)
        self.assertIs(is_escape(ring(3), 1, told + (((True,), (0, 2)),)), False)
        self.assertIs(is_escape(ring(3), 1, told + (((1,), (False, 2)),)), False)
        self.assertIs(is_escape(ring(3), 1, told + (((1,), (0, 2)),)), True)

    def test_too_many_guards_in_a_state(self):
        self.assertIs(is_escape(ring(4), 1, escapes(ring(4), 2)), False)
        # With more guards the same states lack those of all guards.
        self.assertIs(is_escape(ring(4), 2, escapes(ring(4), 1)), False)

    def test_any_other_values(self):
        for value in OTHERS + ((((0,), (1,)),), "ab", {((), (0, 1, 2)): 1}):
            self.assertIs(is_escape(ring(3), 1, value), False)

    def test_narrow(self):
        for bare in [bare for points in range(1, 5) for bare in all_bares(points)] + some_bares(68, 7, 1) + some_bares(69, 10, 1):
            least = least_width(bare)
            for most in range(10):
                told = narrow(bare, most)
                if least <= most:
                    self.assertIs(is_bare_tree(bare, told), True)
                    self.assertLessEqual(width(told), most)
                else:
                    self.assertIs(is_escape(bare, most + 1, told), True)

    def test_errors_of_narrow(self):
        for most in NO_NUMBERS:
            self.refused(BadNumber, {"what": "width", "value": most}, narrow, FULL[10], most)
        for most in (0, 9):
            for bare in (FULL[10], Bare(11, ())):
                self.refused(TooMany, {"what": "points", "limit": 10}, narrow, bare, most)


class Nests(Case):

    def nest_by_hand(self, bare, sets):
        """Whether ascending rows of points are a nest."""
        if not sets or not all(one and part_of(bare, one[0], set(one)) == set(one) for one in sets):
            return False
        return all((set(one) | neighbors(bare, one)) & set(other) for one in sets for other in sets)

    def order_by_hand(self, sets):
        """The least number of points that have one of each set."""
        points = sorted({point for one in sets for point in one})
        return min(many for many in range(len(points) + 1) for some in itertools.combinations(points, many)
                   if all(set(some) & set(one) for one in sets))

    def test_nests_bent_and_not(self):
        dice = random.Random(70)
        right = 0
        for _ in range(1500):
            points = dice.randint(1, 6)
            bare = Bare(points, [pair for pair in every_pair(points) if dice.random() < 0.5])
            sets = tuple(tuple(point for point in range(points) if dice.random() < 0.5) for _ in range(dice.randint(0, 3)))
            expected = bool(self.nest_by_hand(bare, sets))
            self.assertIs(is_nest(bare, sets), expected)
            right += expected
            if expected:
                self.assertEqual(order_of(sets), self.order_by_hand(sets))
        self.assertGreater(right, 300)

    def test_nests_of_few_words(self):
        bare = Bare(5, ((0, 1), (1, 2), (3, 4)))
        for told, right in ((((0,), (1,)), True), (((0,), (2,)), False), (((0, 1), (2,)), True), (((0, 2),), False), (((0, 1, 2), (0, 1, 2)), True),
                            (((0,), (3,)), False), (((3, 4),), True), ((), False), (((),), False), (((0,), ()), False)):
            self.assertIs(is_nest(bare, told), right)

    def test_any_other_values(self):
        bare = Bare(5, ((0, 1), (1, 2), (3, 4)))
        for told in OTHERS + ([(0,)], ([0],), ((1, 0),), ((0, 0),), ((0, 5),), ((-1, 0),), ((True,),), ((0, True),), (("0",),), ((0,), None),
                              ((0,), 0), (0,), ("ab",), ((None,),), (((0,),),), ((0.0,),)):
            self.assertIs(is_nest(bare, told), False)

    def test_orders(self):
        for told, order in ((((0,),), 1), (((0,), (1,)), 2), (((0, 1), (1, 2)), 1), (((0, 1), (1, 2), (0, 2)), 2),
                            (tuple((at,) for at in range(12)), 12), (tuple(every_pair(12)), 11),
                            (tuple(itertools.combinations(range(9), 3)), 7), (tuple(tuple(range(at, at + 6)) for at in range(7)), 2)):
            self.assertEqual(order_of(told), order)

    def test_orders_of_a_hundred_sets(self):
        dice = random.Random(71)
        for size in (2, 3, 4, 5, 6):
            for _ in range(3):
                sets = tuple(tuple(sorted(dice.sample(range(12), size))) for _ in range(100))
                self.assertEqual(order_of(sets), self.order_by_hand(sets))

    def test_nests_show_the_least_width(self):
        bares = [bare for points in range(1, 6) for bare in all_bares(points)]
        bares += some_bares(72, 8, 8) + [TWO_SQUARES, grid(2, 4), ring(8), FULL[7], Bare(8, ()), some_bares(73, 7, 1)[0]]
        bares += [Bare(8, [(at, other) for at in range(4) for other in range(4, 8)]), Bare(8, [pair for pair in every_pair(8) if sum(pair) % 2])]
        for bare in bares:
            told = nest(bare)
            self.assertIs(type(told), tuple)
            self.assertLessEqual(len(told), 100)
            self.assertIs(is_nest(bare, told), True)
            self.assertTrue(self.nest_by_hand(bare, told))
            self.assertEqual(order_of(told), least_width(bare) + 1)

    def test_too_many_points(self):
        for bare in (Bare(9, ()), FULL[8], FULL[11]):
            self.refused(TooMany, {"what": "points", "limit": 8}, nest, bare)
        self.assertEqual(order_of(nest(FULL[7])), 8)


if __name__ == "__main__":
    unittest.main()
