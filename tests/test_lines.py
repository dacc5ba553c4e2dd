"""[53]: code as lines."""

import random
import unittest

from sevenpoints.codes import begin_of, code_of, is_code
from sevenpoints.errors import BadNumber, BadPlace, BadRow
from sevenpoints.lines import Lines, is_lines, lines_of, run_lines
from sevenpoints.machine import Code, Step, run_code
from sevenpoints.meaning import Done, run
from sevenpoints.moves import fewest_of_step, row_of_step
from sevenpoints.texts import program_of
from tests.checks import Case
from tests.samples import EMPTY, FOREVER, GCD, STEPS, programs, rows_for
from tests.test_moves import NO_PLACES, OTHERS, at, behind_at_once, copy, put, value_in
from tests.test_placings import random_placing

SKIP = ("skip",)

# Counts the register 0 down and adds 2 to the cell s each time; gives s.
COUNT = Lines((
    ("set", 0, ("as", 3)),
    ("when", ("most", at(0), 0), 5),
    ("set", "s", ("plus", at("s"), 2)),
    ("set", 0, ("less", at(0), 1)),
    ("jump", 1),
    ("give", at("s")),
), (0,))

SPARE = "a spare"


def code(*rows):
    """Code of steps (start, deed, moves, end)."""
    return Code([Step(*row) for row in rows])


def arrives(step, spare, told, seen, line, held):
    """Whether lines from one on take a step rightly; seen has the lines gone through, held signs for the places."""
    deed = step.deed
    if deed[0] != "give" and line == told.marks[step.end] and (seen or step.end > step.start):
        needed = behind_at_once(step)
        return all(held.get(place, at(place)) == needed.get(place, at(place)) for place in [*needed, *held] if place != spare)
    if line in seen or line >= len(told.rows):
        return False
    row, seen = told.rows[line], seen + [line]
    if row[0] == "give":
        return deed[0] == "give" and value_in(("as", row[1]), held) == deed[1]
    if row[0] == "when":
        pair = (row[1][0],) + tuple(value_in(("as", operand), held) for operand in row[1][1:])
        return deed[0] == "test" and pair == deed[1] and arrives(step, spare, told, seen, row[2] if deed[2] else line + 1, held)
    if row[0] == "jump":
        return arrives(step, spare, told, seen, row[1], held)
    return arrives(step, spare, told, seen, line + 1, {**held, row[1]: value_in(row[2], held)})


def right_by_hand(told_of, spare, told):
    """Whether Lines with marks of the right form are right for a code."""
    if any(row[0] in ("when", "jump") and not 0 <= row[-1] < len(told.rows) for row in told.rows):
        return False
    points = max(max(step.start, step.end) for step in told_of.steps) + 1
    if len(told.marks) != points or told.marks[0] != 0 or told.marks[1] is not None:
        return False
    if any(mark is None or not 0 <= mark < len(told.rows) for mark in told.marks[:1] + told.marks[2:]):
        return False
    return all(arrives(step, spare, told, [], told.marks[step.start], {}) for step in told_of.steps)


def kept_code(program, placing, dice):
    """A code that keeps a placing and perhaps moves other things besides."""
    steps = []
    for step in code_of(program, placing).steps:
        moves = list(step.moves)
        changed = step.deed[1] if step.deed[0] == "set" else None
        for _ in range(dice.randint(0, 3)):
            to = dice.choice((7, 8, 9, "b", "other"))
            if to not in [move[0] for move in moves] and to != changed:
                moves.append((to, dice.choice((7, 8, 9, 0, "b", "other"))))
        steps.append(Step(step.start, step.deed, moves, step.end))
    told = Code(steps)
    return told if is_code(program, placing, told) else code_of(program, placing)


def codes(seed, many):
    """Programs with codes that keep a placing of them, and a begin of both for some row of inputs."""
    dice = random.Random(seed)
    for program in [EMPTY, FOREVER, GCD, STEPS] + programs(seed, many):
        placing = random_placing(program, dice.randint(0, 3), dice)
        yield program, placing, kept_code(program, placing, dice)


def most_lines(told):
    """How many lines a code may have at most."""
    return sum(fewest_of_step(step) + 2 for step in told.steps)


class Objects(Case):

    def test_what_is_given_is_kept(self):
        told = Lines([["give", ["at", 3]]], [0, None])
        self.assertEqual((told.rows, told.marks), ((("give", ("at", 3)),), (0, None)))
        told = Lines(None, {})
        self.assertEqual((told.rows, told.marks), (None, {}))

    def test_equality(self):
        one = Lines((("give", 3),), (0, None, 0))
        self.assertEqual(one, Lines([["give", 3]], [0, None, 0]))
        self.assertFalse(one != Lines((("give", 3),), (0, None, 0)))
        for other in (Lines((("give", 4),), (0, None, 0)), Lines((("give", 3),), (0, None)), None, (one.rows, one.marks), Code(())):
            self.assertFalse(one == other)
            self.assertTrue(one != other)


class Runs(Case):

    def test_whens_jumps_instructions_and_gives(self):
        self.assertEqual(run_lines(COUNT, (), 4000), Done(6, 15))
        self.assertEqual(run_lines(COUNT, [["s", 10 ** 60], (0, 77)], 15), Done(10 ** 60 + 6, 15))
        self.assertIsNone(run_lines(COUNT, (), 14))
        self.assertIsNone(run_lines(COUNT, (), 0))

    def test_each_kind_of_pair(self):
        for word, holds in (("below", (1, 0, 0)), ("most", (1, 1, 0)), ("is", (0, 1, 0))):
            told = Lines((("when", (word, at(0), at("b")), 2), ("give", 0), ("give", 1)), (0,))
            self.assertEqual([run_lines(told, ((0, worth), ("b", 5)), 9) for worth in (4, 5, 6)],
                             [Done(value, 2) for value in holds])

    def test_each_kind_of_value(self):
        rows = [put(1, ("plus", at(0), -7)), put(2, ("less", 3, at(1))), put("a", ("times", at(2), -2)), put(5, ("as", at("a")))]
        told = Lines(rows + [("give", at(5))], (0,))
        self.assertEqual(run_lines(told, ((0, 4),), 5), Done(-12, 5))

    def test_operands_that_are_integers(self):
        self.assertEqual(run_lines(Lines((("give", -5),), (0,)), (), 1), Done(-5, 1))
        self.assertEqual(run_lines(Lines((("when", ("below", 1, 2), 1), ("give", 0)), (0,)), (), 2), Done(0, 2))

    def test_behind_the_last_line(self):
        self.assertIsNone(run_lines(Lines((), ()), (), 4000))
        self.assertIsNone(run_lines(Lines((put(0, ("as", 1)),), (0,)), (), 4000))
        self.assertIsNone(run_lines(Lines((("when", ("is", 0, 1), 0),), (0,)), (), 4000))

    def test_never_done(self):
        self.assertIsNone(run_lines(Lines((("jump", 0), ("give", 0)), (0,)), (), 4000))

    def test_errors_in_their_order(self):
        for begin in (None, 3, "ab", (3,), ((0, 1, 2),), ((0, True),), ((0, "1"),), ((-1, 0),), ((True, 0),), ((0, 1), (0, 1)), {}):
            self.refused_with(BadRow, "value", begin, run_lines, COUNT, begin, None)
        for most in (None, -1, True, False, "1", 1.0, (1,)):
            self.refused(BadNumber, {"what": "most", "value": most}, run_lines, COUNT, ((0, 1),), most)


class Made(Case):

    def test_right_and_no_more_lines_than_promised(self):
        for program, placing, told_of in codes(53, 60):
            told = lines_of(told_of, SPARE)
            self.assertIs(is_lines(told_of, SPARE, told), True)
            self.assertTrue(right_by_hand(told_of, SPARE, told))
            self.assertLessEqual(len(told.rows), most_lines(told_of))

    def test_values_of_runs(self):
        done, never = 0, 0
        for program, placing, told_of in codes(54, 40):
            told = lines_of(told_of, 99)
            for row in rows_for(program, 54, 3):
                begin = begin_of(program, placing, row)
                ran = run_code(told_of, begin, 60)
                most = 60 * (len(told.rows) + 1)
                if ran is None:
                    self.assertTrue(run_lines(told, begin, 60) is None or run_code(told_of, begin, 400) is not None)
                    never += 1
                    continue
                self.assertEqual(run_lines(told, begin, most).value, ran.value)
                self.assertEqual(ran.value, run(program, row, 60).value)
                done += 1
        self.assertGreater(done, 40)
        self.assertGreater(never, 10)

    def test_never_done(self):
        told = lines_of(code_of(FOREVER, ((), (), ())), 0)
        self.assertIsNone(run_lines(told, (), 4000))

    def test_knots_and_closed_rounds(self):
        program = program_of("program p of a b\nloop\na = a plus b\nend\nend")
        moves = ((0, 1), (1, 0), ("x", "y"), ("y", "x"))
        told_of = Code([Step(0, ("set", 2, ("plus", at(2), at("b"))), moves, 0), Step(2, ("give", 0), (), 1)])
        self.assertIs(is_code(program, ((2, None), (), ()), told_of), True)
        told = lines_of(told_of, 3)
        self.assertIs(is_lines(told_of, 3, told), True)
        self.assertTrue(right_by_hand(told_of, 3, told))
        told_of = Code([Step(0, ("set", 2, ("plus", at(2), at("b"))), ((5, 2), (6, 5), (7, 6)), 0), Step(2, ("give", 0), ((8, 9),), 1)])
        self.assertIs(is_lines(told_of, 3, lines_of(told_of, 3)), True)

    def test_gives_with_moves(self):
        told_of = code((0, ("give", at(0)), ((0, 1), (1, 0)), 1), (2, ("give", 0), ((0, 2),), 1))
        told = lines_of(told_of, "x")
        self.assertIs(is_lines(told_of, "x", told), True)
        self.assertEqual(run_lines(told, ((0, 5),), 9).value, 5)

    def test_errors(self):
        told_of = code((0, ("set", "x", ("as", at(3))), ((4, "y"),), 2), (2, ("give", at(5)), (), 1))
        for spare in NO_PLACES + ("x", 3, 4, "y", 5):
            self.refused_with(BadPlace, "value", spare, lines_of, told_of, spare)
            self.refused_with(BadPlace, "value", spare, is_lines, told_of, spare, lines_of(told_of, 0))
        for spare in (0, 10 ** 30, "", "z", "a spare"):
            self.assertIs(is_lines(told_of, spare, lines_of(told_of, spare)), True)


class Judged(Case):

    def judged(self, told_of, spare, rows, marks, right):
        told = Lines(rows, marks)
        self.assertIs(is_lines(told_of, spare, told), right)
        self.assertEqual(right_by_hand(told_of, spare, told), right)

    def test_steps_of_no_line(self):
        told_of = code((0, SKIP, (), 3), (3, SKIP, (), 4), (4, ("give", 7), (), 1), (2, ("give", 0), (), 1))
        self.judged(told_of, 0, (("give", 7), ("give", 0)), (0, None, 1, 0, 0), True)
        # A lesser point must be come to behind a line.
        told_of = code((0, SKIP, (), 4), (4, SKIP, (), 3), (3, ("give", 7), (), 1), (2, ("give", 0), (), 1))
        self.judged(told_of, 0, (("give", 7), ("give", 0)), (0, None, 1, 0, 0), False)
        self.judged(told_of, 0, (("jump", 0), ("give", 0)), (0, None, 1, 0, 0), False)
        self.judged(told_of, 0, (("jump", 1), ("give", 7), ("give", 0)), (0, None, 2, 1, 0), True)
        self.judged(told_of, 0, (("jump", 1), ("jump", 2), ("give", 7), ("give", 0)), (0, None, 3, 2, 0), True)

    def test_a_step_of_no_line_that_should_write(self):
        told_of = code((0, ("set", 0, ("as", 1)), (), 3), (3, ("give", at(0)), (), 1), (2, ("give", 0), (), 1))
        self.judged(told_of, 9, (("give", at(0)), ("give", 0)), (0, None, 1, 0), False)
        self.judged(told_of, 9, (put(0, ("as", 1)), ("give", at(0)), ("give", 0)), (0, None, 2, 1), True)
        # This time it is there at first, and that counts, though a later line would write.
        self.judged(told_of, 9, (put(0, ("as", 1)), ("jump", 0), ("give", 0)), (0, None, 2, 0), False)

    def test_from_a_point_to_itself(self):
        told_of = code((0, SKIP, (), 0), (2, ("give", 0), (), 1))
        self.judged(told_of, 0, (("jump", 0), ("give", 0)), (0, None, 1), True)
        self.judged(told_of, 0, (put(0, ("as", 5)), ("jump", 0), ("give", 0)), (0, None, 2), True)
        self.judged(told_of, 0, (put(1, ("as", 5)), ("jump", 0), ("give", 0)), (0, None, 2), False)
        self.judged(told_of, 0, (("jump", 1), ("jump", 1), ("give", 0)), (0, None, 2), False)
        self.judged(told_of, 0, (("jump", 1), ("give", 0)), (0, None, 1), False)

    def test_both_ends_at_one_line(self):
        told_of = code((0, ("test", ("is", at(0), 0), True), (), 3), (0, ("test", ("is", at(0), 0), False), (), 4),
                       (3, SKIP, (), 5), (4, SKIP, (), 5), (5, ("give", at(0)), (), 1), (2, ("give", 0), (), 1))
        self.judged(told_of, 9, (("give", at(0)), ("give", 0)), (0, None, 1, 0, 0, 0), True)
        self.judged(told_of, 9, (("jump", 1), ("give", at(0)), ("give", 0)), (0, None, 2, 1, 1, 1), True)
        self.judged(told_of, 9, (("when", ("is", at(0), 0), 1), ("give", at(0)), ("give", 0)), (0, None, 2, 1, 1, 1), True)
        self.judged(told_of, 9, (("when", ("is", at(0), 1), 1), ("give", at(0)), ("give", 0)), (0, None, 2, 1, 1, 1), False)

    def test_whens(self):
        told_of = code((0, ("test", ("below", at(0), at(1)), True), ((1, 2),), 3), (0, ("test", ("below", at(0), at(1)), False), (), 4),
                       (3, ("give", at(1)), (), 1), (4, ("give", at(0)), (), 1), (2, ("give", 0), (), 1))
        ends = (copy(1, 2), ("give", at(1)), ("give", 0))
        marks = (0, None, 4, 3, 1)
        for pair, right in ((("below", at(0), at(1)), True), (("below", at(1), at(0)), False), (("most", at(0), at(1)), False),
                            (("is", at(0), at(1)), False), (("below", at(0), at(2)), False), (("below", at(2), at(1)), False), (("below", at(0), 0), False)):
            self.judged(told_of, 9, (("when", pair, 2), ("give", at(0))) + ends, marks, right)
        # What its operands are when it is come to counts, not what they are called.
        self.judged(told_of, 9, (copy(9, 0), ("when", ("below", at(9), at(1)), 3), ("give", at(9))) + ends, (0, None, 5, 4, 2), False)
        self.judged(told_of, 9, (copy(9, 0), ("when", ("below", at(9), at(1)), 3), ("give", at(0))) + ends, (0, None, 5, 4, 2), True)
        self.judged(told_of, 9, (copy(1, 2), ("when", ("below", at(0), at(1)), 3), ("give", at(0))) + ends, (0, None, 5, 4, 2), False)
        # The same test twice goes the same way twice.
        told = (("when", ("below", at(0), at(1)), 3), ("when", ("below", at(0), at(1)), 0), ("give", at(0))) + ends
        self.judged(told_of, 9, told, (0, None, 5, 4, 2), True)
        # Both ways round.
        self.judged(told_of, 9, (("when", ("below", at(0), at(1)), 1), ("give", at(0))) + ends, marks, False)
        self.judged(told_of, 9, (("when", ("below", at(0), at(1)), 0), ("give", at(0))) + ends, marks, False)

    def test_a_step_without_a_test_comes_to_no_when(self):
        told_of = code((0, SKIP, (), 3), (3, ("give", 7), (), 1), (2, ("give", 0), (), 1))
        self.judged(told_of, 9, (("when", ("is", 0, 0), 1), ("give", 7), ("give", 0)), (0, None, 2, 1), False)
        self.judged(told_of, 9, (("jump", 1), ("when", ("is", 0, 0), 2), ("give", 7), ("give", 0)), (0, None, 3, 1), False)

    def test_gives(self):
        told_of = code((0, ("give", at(0)), (), 1), (2, ("give", 5), (), 1))
        self.judged(told_of, 9, (("give", at(0)), ("give", 5)), (0, None, 1), True)
        self.judged(told_of, 9, (("give", at(1)), ("give", 5)), (0, None, 1), False)
        self.judged(told_of, 9, (("give", 5), ("give", 5)), (0, None, 1), False)
        self.judged(told_of, 9, (copy(1, 0), put(0, ("as", 3)), ("give", at(1)), ("give", 5)), (0, None, 3), True)
        self.judged(told_of, 9, (put(0, ("as", 3)), ("give", at(0)), ("give", 5)), (0, None, 2), False)
        self.judged(told_of, 9, (("give", at(0)), put("z", ("as", 5)), ("give", at("z"))), (0, None, 1), True)
        # By value, but whatever functions stand for the words of values.
        self.judged(told_of, 9, (put(1, ("plus", at(0), 0)), ("give", at(1)), ("give", 5)), (0, None, 2), False)
        self.judged(told_of, 9, (("give", at(0)), put("z", ("plus", 2, 3)), ("give", at("z"))), (0, None, 1), False)
        self.judged(told_of, 9, (("give", at(0)), put("z", ("as", 5))), (0, None, 1), False)
        self.judged(told_of, 9, (("give", at(0)), ("jump", 1)), (0, None, 1), False)

    def test_a_give_ahead_of_the_end(self):
        told_of = code((0, SKIP, (), 3), (3, ("give", 7), (), 1), (2, ("give", 0), (), 1))
        self.judged(told_of, 9, (("give", 7), ("give", 7), ("give", 0)), (0, None, 2, 1), False)

    def test_values_are_told_by_signs(self):
        told_of = code((0, ("set", 0, ("plus", at(1), at(2))), (), 3), (3, ("give", 7), (), 1), (2, ("give", 0), (), 1))
        for row, right in (((put(0, ("plus", at(1), at(2))),), True), ((put(0, ("plus", at(2), at(1))),), False),
                           ((put(9, ("plus", at(1), at(2))), copy(0, 9)), True), ((copy(9, 1), put(0, ("plus", at(9), at(2)))), True),
                           ((put(0, ("less", at(1), at(2))),), False), ((copy(8, 1), put(0, ("plus", at(1), at(2)))), False),
                           ((put(0, ("plus", at(1), at(2))), copy(1, 1)), True), ((), False)):
            at_end = len(row) + 1
            told = row + (("jump", at_end), ("give", 7), ("give", 0))
            self.judged(told_of, 9, told, (0, None, at_end + 1, at_end), right)

    def test_marks(self):
        told_of = code((0, SKIP, (), 3), (3, ("give", 7), (), 1), (2, ("give", 7), (), 1))
        rows = (("jump", 1), ("give", 7))
        self.judged(told_of, 9, rows, (0, None, 1, 1), True)
        for marks in ((0, None, 1), (0, None, 1, 1, 1), (0, 1, 1, 1), (None, None, 1, 1), (1, None, 1, 1), (0, None, None, 1),
                      (0, None, 1, None), (0, None, 1, 2), (0, None, 1, -1), (), (1, None, 0, 0)):
            self.judged(told_of, 9, rows, marks, False)
        for marks in ((0, None, True, 1), (False, None, 1, 1), (0, None, 1, 1.0), (0, None, "1", 1), (0, False, 1, 1), (0, (), 1, 1), None, 3, "ab"):
            self.assertIs(is_lines(told_of, 9, Lines(rows, marks)), False)

    def test_what_is_no_line(self):
        told_of = code((0, SKIP, (), 3), (3, ("give", 7), (), 1), (2, ("give", 7), (), 1))
        wrong = OTHERS + (
            ("jump",), ("jump", 0, 0), ("jump", 3), ("jump", 4), ("jump", 9), ("jump", -1), ("jump", True), ("jump", None), ("jump", "1"), ("when", ("is", 0, 0)),
            ("when", ("is", 0, 0), 3), ("when", ("is", 0, 0), 4), ("when", ("is", 0, 0), 9), ("when", ("is", 0, 0), -1), ("when", ("is", 0), 1), ("when", ("not", 0, 0), 1), ("when", ("is", 0, 0, 0), 1),
            ("when", ("is", "a", 0), 1), ("when", ("is", ("at", -1), 0), 1), ("when", ("is", True, 0), 1), ("when", 3, 1), ("when", (3, 0, 0), 1),
            ("give",), ("give", 0, 0), ("give", "a"), ("give", True), ("give", None), ("give", ("at", True)), ("give", ("as", 1)), ("set", 0),
            ("set", None, ("as", 1)), ("set", 0, ("as",)), ("set", 0, 1), ("set", 0, ("times", 1, at(1))), ("set", True, ("as", 1)), ("skip",),
            ("go", 1), (None, 1))
        for line in wrong:
            # No step comes to it.
            self.assertIs(is_lines(told_of, 9, Lines((("jump", 1), ("give", 7), line), (0, None, 1, 1))), False)
        for line in (("jump", 2), ("when", ("most", at("a"), -5), 0), ("give", at(9)), put("x", ("times", at(9), 10 ** 20)), put(9, ("as", 0))):
            self.assertIs(is_lines(told_of, 9, Lines((("jump", 1), ("give", 7), line), (0, None, 1, 1))), True)

    def test_any_other_values(self):
        told_of = code((0, SKIP, (), 3), (3, ("give", 7), (), 1), (2, ("give", 7), (), 1))
        told = lines_of(told_of, 9)
        for value in OTHERS + (told.rows, (told.rows, told.marks), [told], told_of, Done(0, 0), Lines(None, None), Lines((), ()), Lines({}, {})):
            self.assertIs(is_lines(told_of, 9, value), False)
        for rows in OTHERS:
            self.assertIs(is_lines(told_of, 9, Lines(rows, told.marks)), False)

    def test_lists_in_the_place_of_tuples(self):
        # Objects that are made by hand keep lists as tuples; put in behind that they are no rows.
        told_of = code((0, SKIP, (), 3), (3, ("give", 7), (), 1), (2, ("give", 7), (), 1))
        told = lines_of(told_of, 9)
        told.rows = list(told.rows)
        self.assertIs(is_lines(told_of, 9, told), False)
        told = lines_of(told_of, 9)
        told.marks = list(told.marks)
        self.assertIs(is_lines(told_of, 9, told), False)
        told = lines_of(told_of, 9)
        told.rows = tuple(list(row) for row in told.rows)
        self.assertIs(is_lines(told_of, 9, told), False)

    def test_one_thing_bent(self):
        dice = random.Random(55)
        right, wrong = 0, 0
        for program, placing, told_of in codes(55, 30):
            told = lines_of(told_of, SPARE)
            for _ in range(12):
                bent = bent_lines(told, dice)
                expected = right_by_hand(told_of, SPARE, bent)
                self.assertIs(is_lines(told_of, SPARE, bent), expected, (bent.rows, bent.marks))
                right, wrong = right + expected, wrong + (not expected)
        self.assertGreater(right, 60)
        self.assertGreater(wrong, 100)

    def test_right_lines_of_another_form_run_alike(self):
        for program, placing, told_of in codes(56, 20):
            told = lines_of(told_of, SPARE)
            # What the first line does is done at the end of all.
            rows = (("jump", len(told.rows)),) + told.rows[1:] + (told.rows[0], ("jump", min(1, len(told.rows) - 1)))
            other = Lines(rows, told.marks)
            self.assertIs(is_lines(told_of, SPARE, other), True)
            for row in rows_for(program, 56, 3):
                begin = begin_of(program, placing, row)
                ran = run_code(told_of, begin, 60)
                if ran is not None:
                    self.assertEqual(run_lines(other, begin, 60 * len(rows)).value, ran.value)


def bent_line(line, many, dice):
    """A line that is like another one but for one item, among so many lines."""
    if line[0] in ("jump", "when"):
        return line[:-1] + (dice.randrange(many),)
    if line[0] == "give":
        return ("give", dice.choice((0, at(0), at(SPARE), at("a"))))
    return ("set", dice.choice((line[1], SPARE, 0)), dice.choice((line[2], ("as", 0), ("as", at(SPARE)), ("plus", at(0), at(1)))))


def bent_lines(told, dice):
    """Lines that are like other ones but for one line or mark, or tell the same in another place."""
    rows, marks = list(told.rows), list(told.marks)
    where = dice.randrange(len(rows))
    way = dice.randrange(5)
    if way == 0:
        rows[where] = dice.choice((("jump", dice.randrange(len(rows))), ("give", at(0)), copy(0, 1), copy(SPARE, 0), dice.choice(rows)))
    elif way == 1:
        rows[where] = bent_line(rows[where], len(rows), dice)
    elif way == 2:
        marks[dice.randrange(len(marks))] = dice.choice((None, 0, where))
    elif way == 3:
        rows.append(dice.choice(rows))
    else:
        rows[where] = ("jump", len(rows))
        rows.extend([told.rows[where]] + [("jump", where + 1)] * (where + 1 < len(told.rows)))
    return Lines(rows, marks)


class Rows(Case):

    def test_the_lines_of_one_step_are_those_of_moves(self):
        told_of = code((0, ("set", 2, ("plus", at(2), at("b"))), ((0, 1), (1, 0)), 3), (3, ("give", at(2)), (), 1), (2, ("give", 0), (), 1))
        row = row_of_step(told_of.steps[0], 9)
        told = Lines(row + (("give", at(2)), ("give", 0)), (0, None, len(row) + 1, len(row)))
        self.assertIs(is_lines(told_of, 9, told), True)
        for left_out in range(len(row)):
            rows = row[:left_out] + row[left_out + 1:] + (("give", at(2)), ("give", 0))
            self.assertIs(is_lines(told_of, 9, Lines(rows, (0, None, len(row), len(row) - 1))), False)


if __name__ == "__main__":
    unittest.main()
