"""[51] and [52]: moves and writes that are done one behind another."""

import itertools
import random
import unittest

from sevenpoints.errors import BadPlace, BadRow
from sevenpoints.machine import Step
from sevenpoints.moves import (
    closed_rounds, does_step, fewest_in_row, fewest_of_step, in_a_row, is_in_row, row_of_step,
)
from tests.checks import Case

OTHERS = (None, 0, True, "", "ab", b"", 1.5, {}, {1}, object(), Step, [[]], ((),), (None,), (5,), ("ab",))

NO_MOVES = (None, 3, True, "ab", {}, {(1, 2): 3}, ((1,),), ((1, 2, 3),), ("ab",), (3,), (None,), ((1, 2), None), ((-1, 2),), ((1, -2),),
            ((True, 2),), ((1, None),), ((1.0, 2),), (((1,), 2),), ((1, 2), (1, 3)), (("a", 2), ["a", 2]), [[1, 2], [1, 2]],
            ((b"a", 1),))

NO_PLACES = (None, True, False, -1, 1.0, (0,), ["a"], b"a", {})


def at(place):
    """The machine operand that is what a place has."""
    return ("at", place)


def put(place, value):
    """An instruction."""
    return ("set", place, value)


def copy(place, source):
    """An instruction that is a move."""
    return ("set", place, ("as", at(source)))


def step(deed, *moves):
    """A step with a deed and moves."""
    return Step(0, deed, moves, 3)


def value_in(value, held):
    """What a machine value is; a value with a sign stands for itself."""
    parts = [held.get(part[1], part) if isinstance(part, tuple) else part for part in value[1:]]
    return parts[0] if value[0] == "as" else (value[0],) + tuple(parts)


def behind_at_once(told):
    """What the places have behind a step, by hand."""
    held = {to: at(place) for to, place in told.moves}
    if told.deed[0] == "set" and told.deed[1] is not None:
        held[told.deed[1]] = value_in(told.deed[2], {})
    return held


def behind_row(row):
    """What the places have behind instructions one behind another."""
    held = {}
    for _, place, value in row:
        held[place] = value_in(value, held)
    return held


def does_by_hand(told, spare, row):
    """Whether a row of instructions does the writes of a step."""
    needed, held = behind_at_once(told), behind_row(row)
    return all(held.get(place, at(place)) == needed.get(place, at(place)) for place in [*needed, *held] if place != spare)


def places_in(told):
    """All places of a step."""
    rows = [told.deed[2] if told.deed[0] == "set" else told.deed[1] if told.deed[0] == "test" else told.deed]
    read = [part[1] for row in rows for part in row[1:] if isinstance(part, tuple)]
    found = [place for move in told.moves for place in move] + read
    return list(dict.fromkeys(found + ([told.deed[1]] if told.deed[0] == "set" and told.deed[1] is not None else [])))


def fewest_by_search(told, spare, moves_alone):
    """The least number of instructions, found by going through all rows, shorter ones first."""
    places = places_in(told)
    needed = behind_at_once(told)
    goal = tuple(needed.get(place, at(place)) for place in places)
    values = [("as", at(place)) for place in places + [spare]]
    if told.deed[0] == "set" and not moves_alone:
        parts = [[at(place) for place in places + [spare]] if isinstance(part, tuple) else [part] for part in told.deed[2][1:]]
        values += [(told.deed[2][0],) + row for row in itertools.product(*parts)]
    ahead = [tuple(at(place) for place in places + [spare])]
    seen = set(ahead)
    for many in itertools.count():
        if any(held[:-1] == goal for held in ahead):
            return many
        fresh = []
        for held in ahead:
            table = dict(zip(places + [spare], held))
            for value in values:
                worth = value_in(value, table)
                # What is neither there at first nor needed in the end is no step on the way.
                if worth[0] != "at" and worth not in goal if isinstance(worth, tuple) else False:
                    continue
                for index in range(len(held)):
                    other = held[:index] + (worth,) + held[index + 1:]
                    if other not in seen:
                        seen.add(other)
                        fresh.append(other)
        ahead = fresh


class Rounds(Case):

    def test_closed_rounds(self):
        for moves, told in (
                ((), ()), (((1, 2),), ()), (((1, 1),), ()), (((1, 2), (2, 1)), ((1, 2),)), (((2, 1), (1, 2)), ((1, 2),)),
                ((("b", "a"), ("a", "b")), (("a", "b"),)), ((("b", 3), (3, "b")), ((3, "b"),)),
                ((("c", "a"), ("a", "b"), ("b", "c")), (("a", "b", "c"),)), (((1, 3), (3, 2), (2, 1)), ((1, 3, 2),)),
                (((10, 9), (9, 10), ("x", 0), (0, "x"), (3, 3)), ((0, "x"), (9, 10))),
                ((("B", "a"), ("a", "B"), ("10", "9"), ("9", "10"), (7, ""), ("", 7)), ((7, ""), ("10", "9"), ("B", "a"))),
                # Another move reads a place of the round.
                (((1, 2), (2, 1), (3, 1)), ()), (((1, 2), (2, 1), (0, 2)), ()), (((0, 1), (1, 2), (2, 1)), ()),
                (((1, 2), (2, 1), (3, 4), (4, 3), (5, 4)), ((1, 2),)), (((5, 1), (1, 2), (2, 3), (3, 2)), ()),
                (((1, 2), (2, 3), (3, 4)), ()), (((1, 0), (2, 0), (3, 0)), ()), (((4, 4), (5, 5)), ()),
                (((1, 1), (2, 1)), ()), (((0, 3), (3, 0), (1, 1), (2, 1)), ((0, 3),))):
            self.assertEqual(closed_rounds(moves), told)
            self.assertEqual(closed_rounds([list(move) for move in moves]), told)

    def test_fewest(self):
        for moves, told in (
                ((), 0), (((1, 1), ("a", "a")), 0), (((1, 2),), 1), (((1, 2), (2, 1)), 3), (((1, 2), (2, 1), (3, 1)), 3),
                (((1, 2), (2, 3), (3, 4)), 3), (((1, 2), (2, 1), ("a", "b"), ("b", "a"), (5, 5), (6, 5)), 7),
                (((1, 2), (2, 3), (3, 1)), 4), ((("a", 1), ("b", 1), ("c", 1)), 3)):
            self.assertEqual(fewest_in_row(moves), told)
            self.assertEqual(fewest_in_row([list(move) for move in moves]), told)

    def test_wrong_moves(self):
        for moves in NO_MOVES:
            self.refused_with(BadRow, "value", moves, closed_rounds, moves)
            self.refused_with(BadRow, "value", moves, fewest_in_row, moves)
            self.refused_with(BadRow, "value", moves, in_a_row, moves, None)
            self.refused_with(BadRow, "value", moves, is_in_row, moves, None, None)

    def test_wrong_spare_places(self):
        for spare in NO_PLACES + (1, 2, "a", "b", 7):
            self.refused_with(BadPlace, "value", spare, in_a_row, ((1, 2), ("a", "b"), (7, 7)), spare)
            self.refused_with(BadPlace, "value", spare, is_in_row, ((1, 2), ("a", "b"), [7, 7]), spare, None)
        in_a_row(((1, 2), ("a", "b"), (7, 7)), "c")
        in_a_row((), "")


class InARow(unittest.TestCase):

    def right(self, moves, spare):
        told = in_a_row(moves, spare)
        self.assertIs(told.__class__, tuple)
        self.assertTrue(does_by_hand(step(("skip",), *moves), spare, [copy(*move) for move in told]))
        self.assertIs(is_in_row(moves, spare, told), True)
        rounds = closed_rounds(moves)
        self.assertEqual(len(told), sum(one != other for one, other in moves) + len(rounds))
        self.assertEqual(len(told), fewest_in_row(moves))

    def test_all_small_moves_against_all_shorter_rows(self):
        for many in range(4):
            for sources in itertools.product((0, 1, "a"), repeat=many):
                moves = tuple(zip((0, 1, "a"), sources))
                self.right(moves, "z")
                self.assertEqual(fewest_in_row(moves), fewest_by_search(step(("skip",), *moves), "z", True))

    def test_moves_of_four_places_against_all_shorter_rows(self):
        dice = random.Random(131)
        for _ in range(60):
            moves = tuple((to, dice.choice((0, 1, "a", "b"))) for to in dice.sample((0, 1, "a", "b"), dice.randint(2, 4)))
            self.right(moves, 9)
            self.assertEqual(fewest_in_row(moves), fewest_by_search(step(("skip",), *moves), 9, True))

    def test_many_moves(self):
        dice = random.Random(132)
        rounds = 0
        for _ in range(400):
            places = list(range(11)) + list("abcdefghijk")
            tos = dice.sample(places, dice.randint(1, 20))
            sources = tos[:]
            dice.shuffle(sources)
            for at_place in range(len(sources)):
                if dice.random() < 0.08:
                    sources[at_place] = dice.choice(places)
            moves = tuple(zip(tos, sources))
            self.right(moves, "zz")
            rounds += len(closed_rounds(moves))
        self.assertGreater(rounds, 200)


class Judged(unittest.TestCase):

    MOVES = ((1, 2), (2, 1), ("a", 1), (5, 5))

    def test_right_rows(self):
        for told in ((("a", 1), (1, 2), (2, "a")), (("z", 1), (1, 2), (2, "z"), ("a", "z")), (("z", 2), ("a", 1), (2, 1), (1, "z")),
                     (("a", 1), (1, 2), (2, "a"), ("z", 5), (5, "z")), (("a", 1), (1, 2), (2, "a"), (2, 2)),
                     (("z", 9), ("a", 1), (1, 2), (2, "a")), (("z", 9), (9, 5), (9, "z"), ("a", 1), (1, 2), (2, "a"))):
            self.assertIs(is_in_row(self.MOVES, "z", told), True)
            self.assertIs(is_in_row([list(move) for move in self.MOVES], "z", told), True)
            self.assertIs(is_in_row(self.MOVES, "z", list(told)), False)
            self.assertIs(is_in_row(self.MOVES, "z", tuple(list(move) for move in told)), False)

    def test_wrong_rows(self):
        for told in ((), self.MOVES, (("a", 1), (1, 2)), (("a", 1), (1, 2), (2, 1)), ((1, 2), (2, 1), ("a", 1)),
                     (("a", 1), (1, 2), (2, "a"), (5, 1)), (("a", 1), (1, 2), (2, "a"), (9, 1)), (("a", 1), (1, 2), (2, "a"), ("a", 1)),
                     (("q", 1), ("a", 1), (1, 2), (2, "q"))):
            self.assertIs(is_in_row(self.MOVES, "z", told), False)

    def test_no_moves(self):
        for moves in ((), ((3, 3),), ((3, 3), ("a", "a"))):
            self.assertEqual(in_a_row(moves, 8), ())
            self.assertIs(is_in_row(moves, 8, ()), True)
            self.assertIs(is_in_row(moves, 8, ((8, 3),)), True)
            self.assertIs(is_in_row(moves, 8, ((3, 8),)), False)
            self.assertIs(is_in_row(moves, 8, ((8, 3), (3, 8))), True)
            self.assertIs(is_in_row(moves, 8, ((7, 7),)), True)

    def test_other_values(self):
        right = (("a", 1), (1, 2), (2, "a"))
        for told in OTHERS + ((), []) + ((right,), right + (None,), right + ((2,),), right + ((2, "a", 3),), right + ((True, True),),
                                         right + ((-1, -1),), right + ((None, None),), right + ([2, "a"],), right + ("22",),
                                         right + ((2.0, 2.0),), right + (((2,), (2,)),), dict(right)):
            self.assertIs(is_in_row(self.MOVES, "z", told), False)
        self.assertIs(is_in_row(self.MOVES, "z", right), True)

    def test_rows_at_random(self):
        dice = random.Random(133)
        for _ in range(300):
            moves = tuple((to, dice.choice((0, 1, "a"))) for to in dice.sample((0, 1, "a"), dice.randint(0, 3)))
            right = in_a_row(moves, "z")
            for _ in range(8):
                told = list(right)
                for _ in range(dice.randint(1, 2)):
                    told.insert(dice.randint(0, len(told)), (dice.choice((0, 1, "a", "z", 7)), dice.choice((0, 1, "a", "z", 7))))
                    if dice.random() < 0.3:
                        told.pop(dice.randrange(len(told)))
                by_hand = does_by_hand(step(("skip",), *moves), "z", [copy(*move) for move in told])
                self.assertIs(is_in_row(moves, "z", tuple(told)), by_hand)

    def test_long_rows(self):
        there_and_back = ((9, 3), ("z", 4), (9, 9)) * 3000
        self.assertIs(is_in_row(((1, 2),), "z", ((1, 2),) + (("z", 3), (3, "z")) * 5000), True)
        self.assertIs(is_in_row(((1, 2),), "z", ((1, 2),) + there_and_back), False)


def knot_by_hand(told):
    """Whether the value of a step that is no move is in a knot, looked for among all sets of writes."""
    writes = [(to, ("as", at(place))) for to, place in told.moves]
    if told.deed[0] == "set" and told.deed[1] is not None:
        writes.append((told.deed[1], told.deed[2]))
    writes = [(place, value) for place, value in writes if value != ("as", at(place))]
    for many in range(1, len(writes) + 1):
        for some in itertools.combinations(writes, many):
            if all(value[0] == "as" and isinstance(value[1], tuple) for _, value in some):
                continue
            read = all(any(at(place) in other[1][1:] for other in some if other[0] != place) for place, _ in some)
            whole = all(other in some for place, _ in some for other in writes if other[1] == ("as", at(place)))
            if read and whole:
                return True
    return False


class Steps(Case):

    def fewest(self, told):
        """The least number that the fact of the document tells."""
        writes = [move for move in told.moves if move[0] != move[1]]
        more = 0
        if told.deed[0] == "set" and told.deed[1] is not None and told.deed[2] != ("as", at(told.deed[1])):
            if told.deed[2][0] == "as" and isinstance(told.deed[2][1], tuple):
                writes = writes + [(told.deed[1], told.deed[2][1][1])]
            else:
                more = 1
        return len(writes) + more + len(closed_rounds(writes)) + knot_by_hand(told)

    def right(self, told, spare):
        row = row_of_step(told, spare)
        self.assertIs(row.__class__, tuple)
        self.assertTrue(does_by_hand(told, spare, row))
        self.assertIs(does_step(told, spare, row), True)
        self.assertEqual(len(row), fewest_of_step(told))
        self.assertEqual(fewest_of_step(told), self.fewest(told))

    def test_by_hand(self):
        plus = ("plus", at(0), at(1))
        for told, many in (
                (step(("skip",)), 0), (step(("give", at(0)), (1, 0)), 1), (step(("test", ("is", at(0), at(1)), True), (0, 1), (1, 0)), 3),
                (step(("set", None, plus), (2, 0)), 1), (step(("set", None, plus)), 0), (step(("set", 0, plus)), 1),
                # 1 is read by the value and written: the value goes ahead.
                (step(("set", 0, plus), (1, 5)), 2),
                # A knot: 0 is read by the move, 1 by the value.
                (step(("set", 0, plus), (1, 0)), 3),
                # What 0 had is in 2, too, so it may be written: no knot.
                (step(("set", 0, plus), (1, 0), (2, 0)), 3),
                # A knot of three, and a closed round beside it.
                (step(("set", 0, plus), (1, 2), (2, 0)), 4), (step(("set", 0, plus), (1, 2), (2, 0), (3, 4), (4, 3)), 7),
                # The value reads a place of a closed round.
                (step(("set", 5, plus), (0, 1), (1, 0)), 4),
                # Sets that are moves count in closed rounds.
                (step(("set", 0, ("as", at("a"))), ("a", 0)), 3), (step(("set", 0, ("as", at("a"))), ("a", 0), (1, 0)), 3),
                (step(("set", 0, ("as", 7)), (1, 0)), 2), (step(("set", 0, ("times", at(0), 1))), 1),
                (step(("set", 0, ("plus", at(0), 0))), 1), (step(("set", 0, ("less", at(3), at(3))), (3, 0)), 3)):
            self.assertEqual(fewest_of_step(told), many)
            self.right(told, "z")
            if len(places_in(told)) < 5:
                self.assertEqual(fewest_by_search(told, "z", False), many)

    def test_sets_that_put_into_a_place_what_it_has(self):
        for told in (step(("set", 0, ("as", at(0)))), step(("set", "a", ("as", at("a"))), (1, 1)), step(("skip",), (3, 3))):
            self.assertEqual(fewest_of_step(told), 0)
            self.assertEqual(row_of_step(told, "z"), ())
            self.assertIs(does_step(told, "z", ()), True)
        told = step(("set", 0, ("as", at(0))), (1, 0))
        self.assertEqual(fewest_of_step(told), 1)
        self.assertEqual(row_of_step(told, "z"), (copy(1, 0),))

    def random_step(self, dice, places, most):
        """A step over some places."""
        tos = dice.sample(places, dice.randint(0, min(most, len(places) - 1)))
        moves = [(to, dice.choice(places)) for to in tos]
        if dice.random() < 0.4:
            sources = tos[:]
            dice.shuffle(sources)
            moves = list(zip(tos, sources))
        changed = dice.choice([place for place in places if place not in tos])
        if moves and dice.random() < 0.6:
            moves[0] = (tos[0], changed)

        def operand():
            return at(dice.choice(places)) if dice.random() < 0.85 else dice.choice((0, 7))

        value = dice.choice([("as", operand()), ("plus", operand(), operand()), ("less", operand(), operand()),
                             ("times", operand(), dice.choice((1, 3)))])
        deed = dice.choice([("set", changed, value)] * 6 + [("set", None, value), ("skip",), ("give", operand()),
                                                            ("test", ("is", operand(), operand()), False)])
        return step(deed, *moves)

    def test_small_steps_against_all_shorter_rows(self):
        dice = random.Random(134)
        knots = 0
        for _ in range(250):
            told = self.random_step(dice, [0, "a", "b"], 3)
            self.right(told, 5)
            self.assertEqual(fewest_of_step(told), fewest_by_search(told, 5, False))
            knots += knot_by_hand(told)
        for _ in range(25):
            told = self.random_step(dice, [0, 1, "a", "b"], 3)
            self.right(told, 5)
            self.assertEqual(fewest_of_step(told), fewest_by_search(told, 5, False))
            knots += knot_by_hand(told)
        self.assertGreater(knots, 10)

    def test_all_values_beside_two_moves(self):
        for names in itertools.permutations((0, 1, "a", "b")):
            first, second, third, fourth = names
            for one, other in ((second, third), (second, fourth), (third, fourth), (second, second)):
                for sources in itertools.product(names, repeat=2):
                    told = step(("set", first, ("plus", at(one), at(other))), *zip((second, third), sources))
                    self.right(told, "z")

    def test_a_knot_that_reads_from_outside(self):
        # The value must go ahead: a copy of the place 0 alone would be in the spare place for too long.
        told = step(("set", "p", ("plus", at("u"), at(0))), ("u", "p"), (0, "y"))
        self.assertEqual(fewest_of_step(told), 4)
        self.right(told, "z")
        self.assertEqual(fewest_by_search(told, "z", False), 4)

    def test_greater_steps(self):
        dice = random.Random(135)
        knots = 0
        for _ in range(200):
            told = self.random_step(dice, [0, 1, 2, 3, "a", "b", "c", "d"], 7)
            self.right(told, "z")
            knots += knot_by_hand(told)
        self.assertGreater(knots, 10)

    def test_twenty_moves(self):
        dice = random.Random(136)
        places = list(range(12)) + list("abcdefghij")
        for _ in range(100):
            told = self.random_step(dice, places, 20)
            row = row_of_step(told, "z")
            self.assertEqual(len(row), fewest_of_step(told))
            self.assertTrue(does_by_hand(told, "z", row))
            self.assertIs(does_step(told, "z", row), True)

    def test_wrong_spare_places(self):
        for told, used in ((step(("set", 1, ("plus", at(2), at("a"))), ("b", 3), (4, 4)), (1, 2, "a", "b", 3, 4)),
                           (step(("set", None, ("times", at(2), 5))), (2,)), (step(("give", at("x"))), ("x",)),
                           (step(("test", ("below", at(0), at("y")), True), (7, 8)), (0, "y", 7, 8))):
            for spare in NO_PLACES + used:
                self.refused_with(BadPlace, "value", spare, row_of_step, told, spare)
                self.refused_with(BadPlace, "value", spare, does_step, told, spare, None)
            for spare in (5, "z", ""):
                row_of_step(told, spare)


class DoesStep(unittest.TestCase):

    STEP = step(("set", 0, ("plus", at(1), at("a"))), (1, 2))

    def judged(self, right, *told):
        self.assertIs(does_step(self.STEP, "z", told), right, told)
        self.assertEqual(does_by_hand(self.STEP, "z", told), right)

    def test_right_rows(self):
        value = ("plus", at(1), at("a"))
        self.judged(True, put(0, value), copy(1, 2))
        self.judged(True, put("z", value), copy(1, 2), copy(0, "z"))
        self.judged(True, copy("z", 1), copy(1, 2), put(0, ("plus", at("z"), at("a"))))
        self.judged(True, put(0, ("less", 5, 6)), put("z", ("times", 5, 6)), put(0, value), copy(1, 2), copy(5, 5))
        self.judged(True, copy("z", "a"), put(0, ("plus", at(1), at("z"))), copy(1, 2), copy("a", "z"))

    def test_wrong_rows(self):
        value = ("plus", at(1), at("a"))
        self.judged(False)
        self.judged(False, put(0, value))
        self.judged(False, copy(1, 2), put(0, value))
        self.judged(False, put(0, value), copy(1, 2), copy(2, "z"))
        self.judged(False, put(0, value), copy(1, 2), put(9, ("as", 0)))
        self.judged(False, put(0, value), copy(1, 2), copy(9, "z"))
        # u plus v is not v plus u, nor is u less v.
        self.judged(False, put(0, ("plus", at("a"), at(1))), copy(1, 2))
        self.judged(False, put(0, ("less", at(1), at("a"))), copy(1, 2))
        self.judged(False, put(0, ("plus", 1, at("a"))), copy(1, 2))

    def test_functions_are_any_functions(self):
        for value, others in (
                (("as", at("a")), (("times", at("a"), 1), ("plus", at("a"), 0), ("less", at("a"), 0))),
                (("plus", at("a"), 0), (("as", at("a")), ("plus", 0, at("a")), ("less", at("a"), 0))),
                (("times", at("a"), 2), (("plus", at("a"), at("a")), ("times", at("a"), 3))),
                (("times", 3, 4), (("as", 12), ("times", 4, 3), ("plus", 3, 4))), (("less", 3, 3), (("as", 0), ("less", 4, 4))),
                (("as", 5), (("plus", 5, 0), ("as", 6), ("as", at(5))))):
            told = step(("set", 0, value))
            self.assertIs(does_step(told, "z", (put(0, value),)), True)
            for other in others:
                self.assertIs(does_step(told, "z", (put(0, other),)), False)
        # What is put together from parts is the same if the parts are.
        told = step(("set", 0, ("plus", at("a"), 5)))
        self.assertIs(does_step(told, "z", (put("z", ("as", 5)), put(0, ("plus", at("a"), at("z"))))), True)
        self.assertIs(does_step(told, "z", (put("z", ("plus", 2, 3)), put(0, ("plus", at("a"), at("z"))))), False)
        self.assertIs(does_step(step(("set", 0, ("as", at("a")))), "z", (put("z", ("as", 9)), copy(0, "a"))), True)

    def test_long_rows(self):
        # What the spare place has is a sum of very many parts, which nobody writes out.
        double = (put("z", ("plus", at("z"), at("z"))),) * 3000
        told = step(("set", 0, ("as", at(1))))
        self.assertIs(does_step(told, "z", double + (copy(0, 1),)), True)
        self.assertIs(does_step(told, "z", double + (copy(0, "z"),)), False)
        self.assertIs(does_step(told, "z", (copy(0, 1),) + double), True)

    def test_other_values(self):
        value = ("plus", at(1), at("a"))
        right = (put(0, value), copy(1, 2))
        self.assertIs(does_step(self.STEP, "z", right), True)
        for told in OTHERS + ((), [], list(right), (right,), (list(right[0]), right[1]), {0: right}):
            self.assertIs(does_step(self.STEP, "z", told), False)
        for wrong in (("set", None, value), ("set", "z"), ("set", "z", value, 1), ("put", "z", value), ("set", True, value),
                      ("set", -1, value), ("set", ("z",), value), ("set", "z", list(value)), ("set", "z", ("plus", at(1))),
                      ("set", "z", ("plus", at(1), ["at", "a"])), ("set", "z", ("plus", at(1), True)), ("set", "z", ("plus", at(1), "a")),
                      ("set", "z", ("plus", at(1), ("at",))), ("set", "z", ("plus", at(1), ("at", None))), ("set", "z", ("plus", 1, 2, 3)),
                      ("set", "z", ("plus", at(1), ("to", "a"))), ("set", "z", ("plus", at(1), ("at", "a", 1))), ("set", "z", ("as", 1.0)),
                      ("set", "z", ("times", 1, at("a"))), ("set", "z", ("times", 1, True)), ("set", "z", ("as", 1, 2)), ("set", "z", ("as",)),
                      ("set", "z", ("below", 1, 2)), ("set", "z", ()), ("set", "z", None), ("set", "z", 5), ("set", "z", (1, 2, 3)),
                      ("set", "z", ("as", ("at", -1))), ("set", "z", ("as", ("at", True))), ("set", "z", (("as",), 1)), None, 5, "set",
                      ("give", 5), (["set"], "z", value), ("set", "z", ("less", None, 1)), ("set", b"z", value), ("jump", 0)):
            self.assertIs(does_step(self.STEP, "z", right + (wrong,)), False)
        # A bool is no register, though it equals one.
        self.assertIs(does_step(self.STEP, "z", (put(0, value), ("set", True, ("as", at(2))))), False)
        self.assertIs(does_step(self.STEP, "z", (("set", False, value), copy(1, 2))), False)
        self.assertIs(does_step(self.STEP, "z", (put(0, ("plus", at(True), at("a"))), copy(1, 2))), False)
        self.assertIs(does_step(self.STEP, "z", right + (("set", ["z"], value),)), False)
        for fine in (put("z", value), put("z", ("less", 10 ** 30, at(""))), put("z", ("times", at(5), -10 ** 9)), put("z", ("as", 0))):
            self.assertIs(does_step(self.STEP, "z", right + (fine,)), True)


if __name__ == "__main__":
    unittest.main()
