"""[46] and [47]: the machine."""

import random
import unittest

from sevenpoints.errors import BadNumber, BadRow
from sevenpoints.machine import Code, Ran, Step, code_cost, pieces_after, run_code, state_after, step_pieces
from tests.checks import Case

SKIP = ("skip",)


def at(place):
    """The machine operand that is what a place has."""
    return ("at", place)


def code(*rows):
    """Code of steps (start, deed, moves, end)."""
    return Code([Step(*row) for row in rows])


# Counts the register 0 down and adds 2 to the cell s each time; gives s, and moves it behind that.
COUNT = code(
    (0, ("set", 1, ("as", 5)), (), 3),
    (3, ("test", ("below", 0, at(0)), True), ((2, 1),), 4),
    (3, ("test", ("below", 0, at(0)), False), (), 5),
    (4, ("set", 0, ("less", at(0), 1)), (), 6),
    (6, ("set", "s", ("plus", at("s"), 2)), (), 3),
    (5, ("give", at("s")), (("s", 0), (7, "s")), 9),
)

FOREVER = code((0, ("set", "x", ("plus", at("x"), 1)), (), 0))


class Objects(unittest.TestCase):

    def unlike(self, one, others):
        for other in others:
            self.assertFalse(one == other)
            self.assertTrue(one != other)

    def test_steps(self):
        one = Step(0, SKIP, ((1, "a"),), 3)
        self.assertEqual(one, Step(0, ["skip"], [[1, "a"]], 3))
        self.assertFalse(one != Step(0, SKIP, ((1, "a"),), 3))
        self.unlike(one, (Step(1, SKIP, ((1, "a"),), 3), Step(0, ("give", 0), ((1, "a"),), 3), Step(0, SKIP, (), 3),
                          Step(0, SKIP, ((1, "a"),), 0), None, (0, SKIP, ((1, "a"),), 3), Code([one])))

    def test_codes(self):
        one = code((0, SKIP, (), 1))
        self.assertEqual(one, Code((Step(0, SKIP, (), 1),)))
        self.assertFalse(one != code((0, SKIP, (), 1)))
        self.unlike(one, (code(), code((0, SKIP, (), 2)), code((0, SKIP, (), 1), (0, SKIP, (), 1)), None, one.steps))

    def test_rans(self):
        self.assertEqual(Ran(1, 2, 3), Ran(1, 2, 3))
        self.assertFalse(Ran(1, 2, 3) != Ran(1, 2, 3))
        self.unlike(Ran(1, 2, 3), (Ran(0, 2, 3), Ran(1, 0, 3), Ran(1, 2, 0), None, (1, 2, 3)))

    def test_what_is_given_is_kept_lists_as_tuples(self):
        deed, moves = ["set", 1, ["plus", ["at", "a"], 2]], [["b", 1]]
        step = Step([0], deed, moves, "end")
        self.assertEqual((step.start, step.deed, step.moves, step.end),
                         ((0,), ("set", 1, ("plus", ("at", "a"), 2)), (("b", 1),), "end"))
        self.assertEqual((deed, moves), (["set", 1, ["plus", ["at", "a"], 2]], [["b", 1]]))
        steps = [step]
        told = Code(steps)
        steps.append(step)
        self.assertEqual(told.steps, (step,))
        self.assertIs(told.steps[0], step)
        ran = Ran([1, [2]], None, "x")
        self.assertEqual((ran.value, ran.turns, ran.pieces), ((1, (2,)), None, "x"))


class Runs(Case):

    def test_turn_by_turn(self):
        begin = ((0, 2), ("s", 10))
        told = [state_after(COUNT, begin, turns) for turns in range(11)]
        self.assertEqual(told, [
            (0, ((0, 2), ("s", 10))),
            (3, ((0, 2), (1, 5), ("s", 10))),
            (4, ((0, 2), (1, 5), (2, 5), ("s", 10))),
            (6, ((0, 1), (1, 5), (2, 5), ("s", 10))),
            (3, ((0, 1), (1, 5), (2, 5), ("s", 12))),
            (4, ((0, 1), (1, 5), (2, 5), ("s", 12))),
            (6, ((1, 5), (2, 5), ("s", 12))),
            (3, ((1, 5), (2, 5), ("s", 14))),
            (5, ((1, 5), (2, 5), ("s", 14))),
            (9, ((1, 5), (2, 5), (7, 14))),
            (9, ((1, 5), (2, 5), (7, 14))),
        ])
        self.assertEqual([pieces_after(COUNT, begin, turns) for turns in range(11)], [0, 0, 1, 1, 3, 4, 4, 6, 6, 9, 9])

    def test_one_turn_below_at_and_above_the_end(self):
        begin = [[0, 2], ["s", 10]]
        self.assertIsNone(run_code(COUNT, begin, 0))
        self.assertIsNone(run_code(COUNT, begin, 8))
        self.assertEqual(run_code(COUNT, begin, 9), Ran(14, 9, 9))
        self.assertEqual(run_code(COUNT, begin, 10), Ran(14, 9, 9))
        self.assertEqual(run_code(COUNT, begin, 400), Ran(14, 9, 9))
        self.assertEqual(run_code(COUNT, (), 400), Ran(0, 3, 3))
        self.assertEqual(begin, [[0, 2], ["s", 10]])

    def test_a_give_tells_what_was_ahead_of_its_moves(self):
        told = code((0, ("give", at("a")), (("a", "b"), ("b", "a")), 1))
        self.assertEqual(run_code(told, (("a", 3), ("b", 4)), 1), Ran(3, 1, 3))
        self.assertEqual(state_after(told, (("a", 3), ("b", 4)), 1), (1, (("a", 4), ("b", 3))))
        self.assertEqual(run_code(code((0, ("give", -7), (), 1)), (), 5), Ran(-7, 1, 0))
        # The end of the last step is told, wherever it is.
        self.assertEqual(state_after(code((0, ("give", -7), (), 0)), (), 5), (0, ()))

    def test_all_is_read_before_any_is_written(self):
        told = code((0, ("set", 2, ("plus", at(0), at("a"))), ((0, "a"), ("a", 0), (3, 2), (4, 4)), 3))
        self.assertEqual(state_after(told, ((0, 10), ("a", 1), (2, 5), (4, 8)), 1),
                         (3, ((0, 1), (2, 11), (3, 5), (4, 8), ("a", 10))))

    def test_deeds(self):
        for value, told in ((("as", 4), 4), (("as", at("a")), 7), (("plus", at("a"), at(0)), 5), (("less", at("a"), at(0)), 9),
                            (("less", 1, at("a")), -6), (("times", at("a"), -999), -6993), (("plus", at("no"), at(99)), 0),
                            (("times", 10 ** 40, 10 ** 30), 10 ** 70)):
            self.assertEqual(state_after(code((0, ("set", "r", value), (), 5)), (("a", 7), (0, -2)), 1),
                             (5, ((0, -2), ("a", 7)) + ((("r", told),) if told else ())))
            self.assertEqual(state_after(code((0, ("set", None, value), (), 5)), (("a", 7), (0, -2)), 1), (5, ((0, -2), ("a", 7))))

    def test_tests_of_both_truths(self):
        for word, one, other, holds in (("below", 1, 2, True), ("below", 2, 2, False), ("below", 3, 2, False), ("most", 1, 2, True),
                                        ("most", 2, 2, True), ("most", 3, 2, False), ("is", 1, 2, False), ("is", 2, 2, True)):
            for pair in ((word, one, other), (word, at("a"), at(5)), (word, at("a"), other), (word, one, at(5))):
                begin = (("a", one), (5, other))
                for truth in (True, False):
                    told = code((0, ("test", pair, truth), (), 3), (0, SKIP, (), 4))
                    self.assertEqual(state_after(told, begin, 1)[0], 3 if truth == holds else 4)

    def test_the_first_step_that_can_be_done(self):
        told = code((3, ("give", 0), (), 1), (0, ("test", ("is", at(0), 1), True), (), 3), (0, ("test", ("below", at(0), 5), True), (), 4),
                    (0, SKIP, (), 5), (0, ("give", 3), (), 6))
        self.assertEqual([state_after(told, ((0, worth),), 1)[0] for worth in (1, 2, 5)], [3, 4, 5])

    def test_a_run_that_is_stuck(self):
        told = code((0, SKIP, ((1, 0),), 3), (3, ("test", ("is", at(1), 8), False), (("x", 1),), 4))
        for turns in (2, 3, 400):
            self.assertIsNone(run_code(told, ((0, 9),), turns))
            self.assertEqual(state_after(told, ((0, 9),), turns), (4, ((0, 9), (1, 9), ("x", 9))))
            self.assertEqual(pieces_after(told, ((0, 9),), turns), 2)
            self.assertEqual(state_after(told, ((0, 8),), turns), (3, ((0, 8), (1, 8))))
            self.assertEqual(pieces_after(told, ((0, 8),), turns), 1)
        self.assertEqual(state_after(code(), ((0, 9), (2, 0)), 7), (0, ((0, 9),)))
        self.assertIsNone(run_code(code(), (), 7))
        self.assertEqual(pieces_after(code(), (), 7), 0)

    def test_a_run_through_the_end(self):
        told = code((0, SKIP, (), 1), (1, ("set", 0, ("plus", at(0), 1)), (), 4), (4, ("give", at(0)), (), 2))
        self.assertIsNone(run_code(told, (), 2))
        self.assertEqual(state_after(told, (), 1), (1, ()))
        self.assertEqual(run_code(told, ((0, 6),), 3), Ran(7, 3, 0))

    def test_a_run_that_never_ends(self):
        self.assertIsNone(run_code(FOREVER, (), 400))
        self.assertEqual(state_after(FOREVER, (("x", -400),), 400), (0, ()))
        self.assertEqual(state_after(FOREVER, (), 399), (0, (("x", 399),)))
        self.assertEqual(pieces_after(FOREVER, (), 400), 800)

    def test_places_in_their_order(self):
        begin = (("b", 1), (10, 2), ("a", 3), (9, 4), ("", 5), (0, 6), ("10", 7), ("B", 8), (100, 9), ("c", 0), (11, 0))
        self.assertEqual(state_after(FOREVER, begin, 0),
                         (0, ((0, 6), (9, 4), (10, 2), (100, 9), ("", 5), ("10", 7), ("B", 8), ("a", 3), ("b", 1))))

    def test_errors_in_their_order(self):
        for begin in (None, 3, "ab", True, {0: 1}, ((0,),), ((0, 1, 2),), ((0, 1), (0, 2)), (("a", 1), ["a", 1]), ((0, True),),
                      ((0, "1"),), ((0, None),), ((0, 1.0),), ((-1, 0),), ((True, 0),), ((None, 0),), (((0,), 0),), ((1.0, 0),),
                      ("ab",), (3,), (None,), ((0, 1), 3), [[0, 1], [0, 1]], [{0: 1, 1: 2}]):
            for call in (run_code, state_after, pieces_after):
                self.refused_with(BadRow, "value", begin, call, COUNT, begin, None)
        for turns in (None, -1, True, False, "1", 1.0, (1,)):
            for call in (run_code, state_after, pieces_after):
                self.refused(BadNumber, {"what": "turns", "value": turns}, call, COUNT, ((0, 1),), turns)


def random_step(dice, start):
    """A step with all kinds of deeds and moves."""
    places = [0, 1, 2, "a", "b"]

    def operand():
        return dice.choice([at(dice.choice(places)), dice.randint(-3, 3)])

    fresh = dice.sample(places, 5)
    value = dice.choice([("as", operand()), ("plus", operand(), operand()), ("less", operand(), operand()),
                         ("times", operand(), dice.randint(-2, 2))])
    pair = (dice.choice(("below", "most", "is")), operand(), operand())
    deed = dice.choice([SKIP, ("set", fresh.pop(), value), ("set", None, value), ("test", pair, True), ("test", pair, False),
                        ("give", operand())])
    moves = [(fresh.pop(), dice.choice(places)) for _ in range(dice.randint(0, 3))]
    return Step(start, deed, moves, dice.randint(0, 4))


def worth(operand, held):
    """What a machine operand is."""
    return operand if isinstance(operand, int) else held.get(operand[1], 0)


def run_by_hand(steps, begin, turns):
    """Where a run is behind so many turns: the point, the places, its pieces, and its value."""
    held, point, pieces = dict(begin), 0, 0
    for turn in range(turns):
        for step in steps:
            if step.start != point:
                continue
            if step.deed[0] == "test":
                word, one, other = step.deed[1]
                one, other = worth(one, held), worth(other, held)
                if {"below": one < other, "most": one <= other, "is": one == other}[word] is not step.deed[2]:
                    continue
            break
        else:
            return point, held, pieces, None
        new = dict(held)
        new.update((to, held.get(place, 0)) for to, place in step.moves)
        pieces += len(step.moves)
        row = step.deed[2] if step.deed[0] == "set" else step.deed[1] if step.deed[0] == "test" else step.deed
        pieces += len({part[1] for part in row[1:] if isinstance(part, tuple) and isinstance(part[1], str)})
        if step.deed[0] == "set" and step.deed[1] is not None:
            parts = [worth(part, held) for part in row[1:]]
            new[step.deed[1]] = {"as": lambda: parts[0], "plus": lambda: parts[0] + parts[1], "less": lambda: parts[0] - parts[1],
                                 "times": lambda: parts[0] * parts[1]}[row[0]]()
            pieces += isinstance(step.deed[1], str)
        point = step.end
        if step.deed[0] == "give":
            return point, new, pieces, (worth(step.deed[1], held), turn + 1)
        held = new
    return point, held, pieces, None


class AtRandom(unittest.TestCase):

    def test_against_runs_by_hand(self):
        dice = random.Random(111)
        done = 0
        for _ in range(300):
            steps = [random_step(dice, dice.randint(0, 4)) for _ in range(dice.randint(0, 12))]
            begin = [(place, dice.randint(-3, 3)) for place in (0, 2, "a")]
            for turns in (0, 1, 2, 3, 5, 20):
                point, held, pieces, result = run_by_hand(steps, begin, turns)
                self.assertEqual(run_code(Code(steps), begin, turns), None if result is None else Ran(*result, pieces))
                self.assertEqual(pieces_after(Code(steps), begin, turns), pieces)
                told = state_after(Code(steps), begin, turns)
                self.assertEqual((told[0], dict(told[1])), (point, {place: held[place] for place in held if held[place]}))
                done += result is not None
        self.assertGreater(done, 100)


class Pieces(Case):

    def test_pieces_of_steps(self):
        for deed, moves, told in (
                (SKIP, (), 0), (SKIP, ((0, 1), ("a", 2), (3, "a"), (4, 4)), 4), (("give", at("a")), (), 1), (("give", at(0)), (), 0),
                (("give", 5), ((0, "a"),), 1), (("set", 0, ("as", at("a"))), (), 1), (("set", "a", ("as", at(0))), (), 1),
                (("set", "a", ("plus", at("a"), at("b"))), (), 3), (("set", "c", ("plus", at("a"), at("a"))), ((0, "a"),), 3),
                (("set", 0, ("less", at(1), 7)), (), 0), (("set", "a", ("times", at("a"), 2)), (), 2),
                (("set", None, ("plus", at("a"), at("b"))), ((1, 0),), 3), (("set", None, ("as", 1)), (), 0),
                (("test", ("is", at("a"), at("a")), True), (), 1), (("test", ("below", at("a"), at("at")), False), ((2, 1),), 3),
                (("test", ("most", at(1), at(0)), False), (), 0), (("set", "at", ("as", 1)), (), 1)):
            self.assertEqual(step_pieces(Step(3, deed, moves, 4)), told)

    def test_the_cost_of_code(self):
        self.assertEqual([step_pieces(step) for step in COUNT.steps], [0, 1, 0, 0, 2, 3])
        self.assertEqual(code_cost(COUNT, (1, 10, 100, 1000, 10 ** 4, 10 ** 20 - 1)), 20010 + 3 * (10 ** 20 - 1))
        self.assertEqual(code_cost(COUNT, [0, 0, 0, 0, 0, 5]), 15)
        self.assertEqual(code_cost(code(), ()), 0)

    def test_wrong_prices(self):
        for prices in (None, 3, "ab", True, (), (1,), (1, 2, 3), (1, -1), (1, True), (1, "2"), (1, 2.0), (1, None), [[1, 2]],
                       {1: 1, 2: 2}):
            self.refused_with(BadRow, "value", prices, code_cost, code((0, SKIP, (), 0), (0, SKIP, (), 1)), prices)


if __name__ == "__main__":
    unittest.main()
