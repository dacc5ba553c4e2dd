"""[9], [10] and [11]: what programs mean."""

import unittest

from sevenpoints.errors import BadNumber, BadRow, Unlike
from sevenpoints.meaning import Done, deeds, run, unlike, values_after
from sevenpoints.programs import Program
from sevenpoints.texts import program_of
from tests.checks import Case
from tests.samples import EMPTY, FOREVER, GCD, STEPS, programs, rows_for

SKIP = ("skip",)


def block_of(text, inputs=""):
    """The program of these lines of a block."""
    return program_of("program p" + inputs + "\n" + text + "\nend\n")


class Dones(unittest.TestCase):

    def test_equality(self):
        self.assertEqual(Done(3, 4), Done(3, 4))
        self.assertFalse(Done(3, 4) != Done(3, 4))
        for other in (Done(3, 5), Done(4, 4), Done(4, 3), None, (3, 4), 3, "Done"):
            self.assertNotEqual(Done(3, 4), other)
            self.assertFalse(Done(3, 4) == other)

    def test_what_is_given_is_kept_lists_as_tuples(self):
        done = Done([1, (2, [3])], "x")
        self.assertEqual((done.value, done.turns), ((1, (2, (3,))), "x"))


class Deeds(unittest.TestCase):
    """Turn by turn, for each rule of [9]."""

    def told(self, program, inputs, expected):
        """Just these deeds, the last one a give that ends the run."""
        self.assertEqual(deeds(program, inputs, 400), expected)
        for turns in range(len(expected) + 3):
            self.assertEqual(deeds(program, inputs, turns), expected[:turns])
            self.assertEqual(run(program, inputs, turns) is None, turns < len(expected))
        self.assertEqual(run(program, inputs, 400).turns, len(expected))

    def test_the_program_without_statements(self):
        self.told(EMPTY, (), (SKIP, ("give", 0)))
        self.assertEqual(run(EMPTY, (), 2), Done(0, 2))

    def test_sets_skips_and_the_end_of_the_block(self):
        program = block_of("x = 7\nskip\ny = x less 9\nx = y times -3\nx = x plus x", " of y")
        self.told(program, (5,), (("set", "x", ("as", 7)), SKIP, ("set", "y", ("less", "x", 9)),
                                  ("set", "x", ("times", "y", -3)), ("set", "x", ("plus", "x", "x")), ("give", 0)))
        told = [values_after(program, (5,), turns) for turns in range(9)]
        self.assertEqual(told, [(5, 0), (5, 7), (5, 7), (-2, 7), (-2, 6), (-2, 12), (-2, 12), (-2, 12), (-2, 12)])

    def test_gives(self):
        self.told(block_of("give -4\nskip"), (), (("give", -4),))
        self.assertEqual(run(block_of("give -4\nskip"), (), 1), Done(-4, 1))
        self.told(block_of("give a\ngive b", " of a b"), (3, 4), (("give", "a"),))
        self.assertEqual(run(block_of("give a\ngive b", " of a b"), (3, 4), 1), Done(3, 1))
        self.assertEqual(run(block_of("give c"), (), 1), Done(0, 1))
        self.assertEqual(run(block_of("loop\nwhile 1 is 1\ngive 8\nend\nend"), (), 2), Done(8, 2))

    def test_the_old_values_tell_the_new_one(self):
        program = block_of("a = a plus b\nb = a less b\na = a less b", " of a b")
        self.assertEqual(values_after(program, (3, 8), 3), (8, 3))

    def test_compared_pairs(self):
        for word, holds in (("below", (True, False, False)), ("most", (True, True, False)), ("is", (False, True, False))):
            program = block_of(f"if a {word} b\ngive 1\nend\ngive 2", " of a b")
            for a, found in zip((4, 5, 6), holds):
                self.told(program, (a, 5), (("test", (word, "a", "b"), found), ("give", 1)) if found else
                          (("test", (word, "a", "b"), False), SKIP, ("give", 2)))

    def test_conditions(self):
        a, b, c = ("is", "a", 1), ("is", "b", 1), ("is", "c", 1)
        pairs = {a: 0, b: 1, c: 2}
        for condition, tested in (
                (a, lambda x, y, z: (a,)),
                (("not", a), lambda x, y, z: (a,)),
                (("and", a, b), lambda x, y, z: (a, b) if x else (a,)),
                (("or", a, b), lambda x, y, z: (a,) if x else (a, b)),
                (("not", ("and", a, ("not", b))), lambda x, y, z: (a, b) if x else (a,)),
                (("and", ("or", a, b), c), lambda x, y, z: (a, c) if x else (a, b, c) if y else (a, b)),
                (("or", ("and", a, b), c), lambda x, y, z: (a, c) if not x else (a, b) if y else (a, b, c)),
                (("or", ("not", ("or", a, b)), c), lambda x, y, z: (a, c) if x else (a, b, c) if y else (a, b))):
            program = Program("p", ("a", "b", "c"), (("if", condition, (("give", 1),), (("give", 2),)),))
            for row in ((x, y, z) for x in (0, 1) for y in (0, 1) for z in (0, 1)):
                holds = worth(condition, dict(zip("abc", row)))
                tests = tuple(("test", pair, row[pairs[pair]] == 1) for pair in tested(*row))
                self.told(program, row, tests + (("give", 1 if holds else 2),))

    def test_ifs(self):
        program = block_of("if a below 0\na = 0 less a\nelse\nend\ngive a", " of a")
        self.told(program, (-7,), (("test", ("below", "a", 0), True), ("set", "a", ("less", 0, "a")), ("give", "a")))
        self.told(program, (7,), (("test", ("below", "a", 0), False), SKIP, ("give", "a")))
        self.assertEqual(run(program, (-7,), 3), Done(7, 3))

    def test_whiles(self):
        program = block_of("while 0 below a\nif a is 2\na = 0\nnext\nend\nif a is 4\nbreak\nend\na = a less 1\nend\ngive a", " of a")
        yes, no = ("test", ("below", 0, "a"), True), ("test", ("below", 0, "a"), False)
        two, four = ("is", "a", 2), ("is", "a", 4)
        self.told(program, (0,), (no, ("give", "a")))
        self.told(program, (1,), (yes, ("test", two, False), SKIP, ("test", four, False), SKIP,
                                  ("set", "a", ("less", "a", 1)), no, ("give", "a")))
        self.told(program, (2,), (yes, ("test", two, True), ("set", "a", ("as", 0)), SKIP, no, ("give", "a")))
        self.told(program, (4,), (yes, ("test", two, False), SKIP, ("test", four, True), SKIP, ("give", "a")))

    def test_an_empty_while(self):
        program = block_of("while a is 1\nend", " of a")
        self.told(program, (0,), (("test", ("is", "a", 1), False), ("give", 0)))
        self.assertEqual(deeds(program, (1,), 5), (("test", ("is", "a", 1), True), SKIP) * 2 + (
            ("test", ("is", "a", 1), True),))
        self.assertIsNone(run(program, (1,), 400))

    def test_loops(self):
        more, two = ("test", ("most", "a", 0), False), ("set", "s", ("plus", "s", 2))
        fewer, one = ("set", "a", ("less", "a", 1)), ("set", "s", ("plus", "s", 1))
        no = ("test", ("is", "s", 4), False)
        self.told(STEPS, (2,), (("set", "s", ("as", 0)), more, fewer, two, no, SKIP, one, more, fewer, two, no, SKIP, one,
                                ("test", ("most", "a", 0), True), SKIP, ("give", "s")))
        self.assertEqual(run(STEPS, (2,), 16), Done(6, 16))
        program = block_of("loop\nloop\nbreak\nend\nx = x plus 1\nif x is 2\nbreak\nend\nnext\nskip\nend\ngive x")
        add, done = ("set", "x", ("plus", "x", 1)), ("is", "x", 2)
        self.told(program, (), (SKIP, add, ("test", done, False), SKIP, SKIP, SKIP, add, ("test", done, True), SKIP,
                                ("give", "x")))

    def test_a_break_leaves_whiles_and_loops_behind_it_alone(self):
        program = block_of("loop\nif a is 1\nbreak\nend\nwhile a is 0\na = 1\nend\nloop\nbreak\nend\nend\ngive a", " of a")
        self.assertEqual(run(program, (1,), 9), Done(1, 3))
        self.assertEqual(run(program, (0,), 9), Done(1, 9))

    def test_a_next_begins_the_innermost_one_anew(self):
        program = block_of("while a below 3\na = a plus 1\nwhile b below 2\nb = b plus 1\nnext\nb = 9\nend\nnext\na = 9\nend\n"
                           "give b", " of a")
        self.assertEqual(run(program, (2,), 400), Done(2, 12))
        self.assertEqual(values_after(program, (2,), 400), (3, 2))

    def test_what_never_ends(self):
        self.assertEqual(deeds(FOREVER, (), 400), (SKIP,) * 400)
        self.assertIsNone(run(FOREVER, (), 400))
        self.assertEqual(values_after(FOREVER, (), 400), ())
        self.assertEqual(deeds(block_of("loop\nloop\nnext\nend\nend"), (), 3), (SKIP,) * 3)


def worth(condition, held):
    """Whether a condition of pairs (is, name, 1) holds."""
    if condition[0] == "is":
        return held[condition[1]] == 1
    if condition[0] == "not":
        return not worth(condition[1], held)
    return (all if condition[0] == "and" else any)([worth(part, held) for part in condition[1:]])


class Runs(Case):

    def test_the_greatest_common_divisor(self):
        self.assertEqual(run(GCD, (12, 18), 400).value, 6)
        self.assertEqual(run(GCD, [35, 0], 2), Done(35, 2))

    def test_turns_below_at_and_above_the_end(self):
        done = run(STEPS, (2,), 400)
        self.assertEqual(done.turns, 16)
        for turns, told in ((0, None), (1, None), (15, None), (16, done), (17, done), (10 ** 9, done)):
            self.assertEqual(run(STEPS, (2,), turns), told)

    def test_nothing_is_done_in_no_turns(self):
        self.assertEqual(deeds(GCD, (4, 2), 0), ())
        self.assertEqual(values_after(GCD, (4, 2), 0), (4, 2, 0))
        self.assertIsNone(run(GCD, (4, 2), 0))

    def test_inputs_of_sixty_digits(self):
        great = 10 ** 60 - 1
        program = block_of("c = a plus b\nc = c times 999\nc = c less -999999999\ngive c", " of a b")
        self.assertEqual(run(program, (great, -great), 4), Done(999999999, 4))
        self.assertEqual(run(program, (great, great), 4), Done(2 * great * 999 + 999999999, 4))
        double = block_of("loop\na = a plus a\nend", " of a")
        self.assertEqual(values_after(double, (-great,), 400), (-great * 2 ** 400,))

    def test_rows_as_lists_and_tuples(self):
        row = [2]
        for call in (run, deeds, values_after):
            self.assertEqual(call(STEPS, row, 30), call(STEPS, (2,), 30))
        self.assertEqual(row, [2])
        self.assertIs(deeds(STEPS, row, 3).__class__, tuple)
        self.assertIs(values_after(STEPS, row, 3).__class__, tuple)

    def test_bad_rows_ahead_of_bad_numbers(self):
        for call in (run, deeds, values_after):
            for inputs in (None, 1, "12", (), (1,), (1, 2, 3), (1, True), (False, 1), (1, "a"), (1, None), (1, 2.0), ((1,), 2),
                           {1: 2, 3: 4}, [1, [2]]):
                self.refused_with(BadRow, "value", inputs, call, GCD, inputs, None)
            for inputs in (None, (0,), [0], 0, ""):
                self.refused_with(BadRow, "value", inputs, call, EMPTY, inputs, 5)
            for turns in (None, -1, True, False, "5", 1.0, [1], ()):
                error = self.refused(BadNumber, {"what": "turns", "value": turns}, call, GCD, (1, 2), turns)
                self.assertIs(error.value, turns)

    def test_done_alike_with_more_turns(self):
        for program in programs(21, 80):
            for row in rows_for(program, 22, 2):
                done = run(program, row, 60)
                told = deeds(program, row, 60)
                self.assertEqual(done is None, len(told) == 60 and told[-1][0] != "give")
                if done is not None:
                    self.assertEqual(done.turns, len(told))
                    self.assertEqual(run(program, row, 400), done)
                    self.assertEqual(run(program, row, done.turns), done)
                    self.assertIsNone(run(program, row, done.turns - 1))

    def test_values_follow_from_deeds(self):
        for program in programs(23, 80):
            for row in rows_for(program, 24, 2):
                held = dict.fromkeys(program.names(), 0)
                held.update(zip(program.inputs, row))
                for turns, deed in enumerate(deeds(program, row, 50)):
                    self.assertEqual(values_after(program, row, turns), tuple(held[name] for name in program.names()))
                    if deed[0] == "set":
                        value = [held.get(item, item) if at else item for at, item in enumerate(deed[2])]
                        held[deed[1]] = {"as": lambda u: u, "plus": lambda u, v: u + v, "less": lambda u, v: u - v,
                                         "times": lambda u, v: u * v}[value[0]](*value[1:])
                    if deed[0] == "test":
                        word, u, v = [held.get(item, item) if at else item for at, item in enumerate(deed[1])]
                        self.assertIs({"below": u < v, "most": u <= v, "is": u == v}[word], deed[2])


class Unlikes(Case):

    def test_the_first_row_with_another_value(self):
        one = block_of("if a below 3\ngive a\nend\ngive 3", " of a")
        other = block_of("if a most 3\ngive b\nend\ngive 3", " of a")
        other_way = block_of("skip\nif x below 3\ngive x\nend\ngive 3", " of x")
        self.assertIsNone(unlike(one, other_way, [[1], [2], [3], [4]], 9))
        told = unlike(one, other, [[0], [4], [2], [1]], 9)
        self.assertEqual(told, (2,))
        self.assertIs(told.__class__, tuple)
        self.assertEqual(unlike(one, other, ((0,), (1,), (2,)), 9), (1,))

    def test_one_that_is_not_done(self):
        one = block_of("while a is 1\nend\ngive 5", " of a")
        other = block_of("give 5", " of a")
        self.assertEqual(unlike(one, other, [(0,), (1,)], 400), (1,))
        self.assertEqual(unlike(other, one, [(0,), (1,)], 400), (1,))
        self.assertIsNone(unlike(one, one, [(0,), (1,)], 400))
        self.assertEqual(unlike(one, other, [(2,)], 1), (2,))
        self.assertIsNone(unlike(one, other, [(2,)], 2))
        self.assertIsNone(unlike(one, other, [(2,), (1,)], 0))

    def test_the_number_of_turns_does_not_count(self):
        self.assertIsNone(unlike(EMPTY, block_of("skip\nskip\ngive 0"), [()], 9))
        self.assertEqual(unlike(EMPTY, block_of("skip\nskip\ngive 0"), [()], 2), ())
        self.assertEqual(unlike(EMPTY, block_of("give 1"), [[], []], 5), ())
        self.assertIsNone(unlike(EMPTY, block_of("give 1"), [], 5))

    def test_errors_in_their_order(self):
        one, two = block_of("give a", " of a"), block_of("give a", " of a b")
        self.refused(Unlike, {"what": "inputs"}, unlike, one, two, None, None)
        self.refused(Unlike, {"what": "inputs"}, unlike, two, one, [(1,)], 5)
        for rows in (None, 1, "a", (1,), [1], [(1,), (1, 2)], [(1,), ()], [(True,)], [("a",)], [[1], [None]], {(1,): 1},
                     [(1,), 2], ((1,), ((1,),))):
            self.refused_with(BadRow, "value", rows, unlike, one, one, rows, None)
        for turns in (None, -1, True, "1", 2.0):
            self.refused(BadNumber, {"what": "turns", "value": turns}, unlike, one, one, [], turns)
            self.refused(BadNumber, {"what": "turns", "value": turns}, unlike, one, one, [(1,)], turns)


if __name__ == "__main__":
    unittest.main()
