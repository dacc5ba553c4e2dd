"""[4] and [5]: what programs are made of."""

import unittest

from sevenpoints.errors import BadName, BadProgram, BadRow, TooMany, Unlike
from sevenpoints.programs import Program, is_name, renamed, size
from sevenpoints.texts import program_of
from tests.checks import Case
from tests.samples import GCD, NAMES, STEPS, programs

WORDS = ("program of if else while loop end break next give skip plus less times below most is not and or").split()

PAIR = ("is", "a", 1)


def nots(many, inside):
    """A condition turned round so often."""
    for _ in range(many):
        inside = ("not", inside)
    return inside


def joined(word, many):
    """So many pairs, joined from the left."""
    told = PAIR
    for _ in range(many - 1):
        told = (word, told, PAIR)
    return told


def listed(value):
    """The value with lists for tuples."""
    return [listed(item) for item in value] if isinstance(value, tuple) else value


class Names(unittest.TestCase):

    def test_names(self):
        for value in ("a", "z", "a0", "abcdefgh", "z9999999", "as", "set", "test", "ands", "go", "with", "x0y1"):
            self.assertIs(is_name(value), True, value)

    def test_words_of_the_language_are_no_names(self):
        for word in WORDS:
            self.assertIs(is_name(word), False, word)
            self.assertIs(is_name(word + "1"), True, word)

    def test_other_strings_are_no_names(self):
        for value in ("", "abcdefghi", "1a", "0", "A", "aB", "a_b", "_", "a b", " a", "a ", "a\n", "a\t", "a-", "-a", "ä",
                      "aé", "a²", "٣a", "a٣", "a.", "(", "="):
            self.assertIs(is_name(value), False, value)

    def test_what_is_no_string_is_no_name(self):
        for value in (None, True, False, 0, 1, 1.5, b"a", ("a",), ["a"], {"a": 1}, {"a"}, [], (), object(), is_name):
            self.assertIs(is_name(value), False, value)


class Making(Case):

    def test_attributes_are_tuples_at_all_depths(self):
        block = [["while", ["not", ["below", "a", 3]], [["set", "a", ["plus", "a", 1]], ["skip"]]], ["give", "a"]]
        program = Program("p", ["a", "b"], block)
        self.assertEqual(program.name, "p")
        self.assertEqual(program.inputs, ("a", "b"))
        self.assertIs(program.inputs.__class__, tuple)
        told = (("while", ("not", ("below", "a", 3)), (("set", "a", ("plus", "a", 1)), ("skip",))), ("give", "a"))
        self.assertEqual(program.block, told)
        self.assertEqual(block[0][2][1], ["skip"])
        block[0][2].append(["skip"])
        self.assertEqual(program.block, told)

    def test_all_that_a_program_may_have(self):
        block = (
            ("set", "a", ("as", -999999999)), ("set", "a", ("as", 999999999)), ("set", "b", ("times", "a", -999)),
            ("set", "b", ("times", 5, 999)), ("set", "b", ("less", 1, 2)), ("set", "as", ("as", "set")),
            ("loop", (("if", PAIR, (("break",),), (("next",),)),)), ("while", ("most", 1, 2), (("next",),)),
            ("if", ("and", PAIR, ("or", PAIR, PAIR)), (), ()), ("loop", ()), ("give", 0), ("give", "a"), ("skip",),
        )
        self.assertEqual(Program("p", (), block).block, block)
        self.assertEqual(Program("set", ("set", "a", "b", "c"), listed(block)).block, block)

    def test_of_several_errors_the_first_listed_one(self):
        self.refused_with(BadName, "name", "of", Program, "of", ("a", "a"), None)
        self.refused(BadRow, {"value": ("a", "a")}, Program, "p", ("a", "a"), None)
        self.refused(BadProgram, {"value": None}, Program, "p", ("a",), None)

    def test_bad_names(self):
        for name in (None, 1, True, "", "P", "program", "abcdefghi", ["p"], ("p",), b"p"):
            self.refused_with(BadName, "name", name, Program, name, (), ())

    def test_bad_inputs(self):
        for inputs in (None, "a", 1, True, {"a": 1}, {"a"}, ("a", "a"), ["b", "a", "b"], ("a", "b", "c", "d", "e"),
                       ("a", "of"), ("A",), (1,), (None,), (["a"],), (("a",),), [True], ["a", []]):
            self.refused_with(BadRow, "value", inputs, Program, "p", inputs, ())
        self.assertEqual(Program("p", ("a", "b", "c", "d"), ()).inputs, ("a", "b", "c", "d"))

    def test_equality(self):
        block = (("give", "a"),)
        one = Program("p", ("a",), block)
        self.assertEqual(one, Program("p", ["a"], [["give", "a"]]))
        self.assertFalse(one != Program("p", ["a"], [["give", "a"]]))
        for other in (Program("q", ("a",), block), Program("p", (), block), Program("p", ("a", "b"), block),
                      Program("p", ("a",), (("give", "b"),)), Program("p", ("a",), ()), "p", None, ("p", ("a",), block)):
            self.assertNotEqual(one, other)
            self.assertFalse(one == other)


class WrongThings(Case):
    """What is wrong itself, not its items, in the order in which it stands."""

    def wrong(self, thing, block):
        self.refused_with(BadProgram, "value", thing, Program, "p", (), block)

    def test_what_is_no_block(self):
        for thing in (None, "", "skip", 0, True, {}, {"skip"}, b"", object()):
            self.wrong(thing, thing)
            self.wrong(thing, (("skip",), ("loop", thing), ("of",)))
            self.wrong(thing, [["if", PAIR, [], thing]])
            self.wrong(thing, [["if", PAIR, thing, None]])
            self.wrong(thing, [["while", PAIR, thing]])

    def test_what_is_no_statement(self):
        things = (None, "skip", 0, (), [], ("of",), ("",), ("as", 1), ("below", 1, 2), (["skip"],), (("skip",),), (None,),
                  (True,), (b"skip",), ("skip", 1), ["skip", "skip"], ("set",), ("set", "a"), ("set", "a", ("as", 1), 1),
                  ("if",), ("if", PAIR), ("if", PAIR, ()), ("if", PAIR, (), (), ()), ("while", PAIR), ("while",),
                  ("while", PAIR, (), ()), ("loop",), ("loop", (), ()), ("give",), ("give", 1, 1), ("break", 1),
                  ("next", 1), ("Skip",), ("else",), ("block", ()), ({},))
        for thing in things:
            self.wrong(thing, [thing])
            self.wrong(thing, (("skip",), thing, None))
            self.wrong(thing, (("loop", (("if", PAIR, (), (("skip",), thing)),)), None))

    def test_a_statement_in_the_place_of_a_block(self):
        self.wrong("skip", [("loop", ("skip",))])
        self.wrong("a", [("if", PAIR, (), ["a"])])
        self.wrong("skip", ("skip",))

    def test_break_and_next_outside_of_loops(self):
        for word in ("break", "next"):
            for thing in ((word,), [word]):
                self.wrong(thing, (thing,))
                self.wrong(thing, (("loop", ((word,),)), thing))
                self.wrong(thing, (("if", PAIR, (thing,), ((word,),)),))
                self.wrong(thing, (("while", PAIR, ()), ("if", PAIR, (), (("if", PAIR, (), (thing,)),))))
            for block in ((("loop", ((word,),)),), (("while", PAIR, ((word,),)),),
                          (("while", PAIR, (("if", PAIR, (), (("if", PAIR, ((word,),), ()),)),)),),
                          (("loop", (("loop", ()), (word,))),)):
                self.assertEqual(Program("p", (), block).block, block)

    def test_what_is_no_value(self):
        for thing in (None, 1, "a", (), [], ("as",), ("as", 1, 2), ("plus", 1), ("plus", 1, 2, 3), ("less", 1), ("times", 1),
                      ("times", 1, 2, 3), ("skip",), ("below", 1, 2), ("is", 1, 2), (["as"], 1), ("a",), ("", 1)):
            self.wrong(thing, (("set", "a", thing),))
            self.wrong(thing, [["loop", [["set", "a", thing], None]]])

    def test_what_is_no_condition(self):
        for thing in (None, True, "a", (), [], ("below", 1), ("below", 1, 2, 3), ("most",), ("is", 1), ("not",),
                      ("not", PAIR, PAIR), ("and", PAIR), ("or", PAIR), ("or", PAIR, PAIR, PAIR), ("as", 1), ("plus", 1, 2),
                      ("skip",), ("set", "a", ("as", 1)), (("is",), 1, 1)):
            self.wrong(thing, (("if", thing, None, None),))
            self.wrong(thing, (("while", thing, None),))
            self.wrong(thing, (("while", ("and", PAIR, ("not", ("or", PAIR, ("not", thing)))), None),))
            self.wrong(thing, (("if", ["or", thing, None], (), ()),))

    def test_what_is_no_name(self):
        for thing in (None, 1, True, "", "A", "of", "abcdefghi", ["a"], ("a",)):
            self.wrong(thing, (("set", thing, None),))

    def test_what_is_no_operand(self):
        for thing in (None, True, False, "", "A", "is", "abcdefghi", ["a"], ("a",), (), 1000000000, -1000000000, 10 ** 60,
                      1.0, "1", b"a"):
            for value in (("as", thing), ("plus", thing, None), ("plus", "a", thing), ("less", thing, None),
                          ("less", 1, thing), ("times", thing, None)):
                self.wrong(thing, (("set", "a", value), None))
            for word in ("below", "most", "is"):
                self.wrong(thing, (("while", (word, thing, None), None),))
                self.wrong(thing, (("while", [word, 0, thing], None),))
            self.wrong(thing, (("give", thing),))

    def test_what_is_no_factor(self):
        for thing in (None, True, False, "a", "1", 1000, -1000, 10 ** 60, [1], (1,), 1.0):
            self.wrong(thing, (("set", "a", ("times", "a", thing)),))
        for good in (-999, 999, 0):
            Program("p", (), (("set", "a", ("times", "a", good)),))

    def test_the_first_one_counts(self):
        self.wrong(None, (("set", "a", ("as", None)), ("of",)))
        self.wrong("of", (("set", "of", ("as",)), ("of",)))
        self.wrong("A", (("if", ("is", "A", "B"), None, None),))
        self.wrong("B", (("if", PAIR, (("give", "B"),), (("give", "C"),)), ("give", "D")))
        self.wrong("C", (("if", PAIR, (("give", "b"),), (("give", "C"),)), ("give", "D")))

    def test_what_was_passed_stays_as_it_is(self):
        thing = ["skip", ["x"]]
        block = [["loop", [["set", "a", ["as", 1]], thing]]]
        self.wrong(thing, block)
        self.assertEqual(block, [["loop", [["set", "a", ["as", 1]], ["skip", ["x"]]]]])


class Limits(Case):

    def too_many(self, what, limit, inputs, block):
        self.refused(TooMany, {"what": what, "limit": limit}, Program, "p", inputs, block)
        self.refused(TooMany, {"what": what, "limit": limit}, Program, "p", list(inputs), listed(block))

    def test_statements(self):
        skip = (("skip",),)
        self.assertEqual(size(Program("p", (), skip * 40)), 40)
        self.too_many("statements", 40, (), skip * 41)
        self.assertEqual(size(Program("p", (), (("if", PAIR, skip * 19, skip * 20),))), 40)
        self.too_many("statements", 40, (), (("if", PAIR, skip * 20, skip * 20),))
        self.too_many("statements", 40, (), (("while", PAIR, skip * 39), ("give", 0)))

    def test_pairs(self):
        for word in ("and", "or"):
            for head in (("if",), ("while",)):
                rest = ((), ()) if head == ("if",) else ((),)
                Program("p", (), ((head + (joined(word, 6),) + rest),) * 2)
                self.too_many("pairs", 6, (), (head + (PAIR,) + rest, head + (joined(word, 7),) + rest))

    def test_parts(self):
        Program("p", (), (("while", nots(19, PAIR), ()),))
        self.too_many("parts", 20, (), (("while", nots(20, PAIR), ()),))
        Program("p", (), (("while", nots(9, joined("and", 6)), ()),))
        self.too_many("parts", 20, (), (("loop", (("if", nots(10, joined("and", 6)), (), ()),)),))

    def test_names(self):
        inputs = ("a", "b", "c", "d")
        block = (("set", "e", ("plus", "f", "g")), ("if", ("is", "h", "a"), (), (("give", "b"),)))
        self.assertEqual(len(Program("i", inputs, block).names()), 8)
        self.too_many("names", 8, inputs, block + (("give", "i"),))
        self.too_many("names", 8, inputs, block + (("set", "i", ("as", 0)),))
        self.too_many("names", 8, (), tuple(("give", "n" + str(k)) for k in range(9)))

    def test_several_limits_at_once(self):
        names = tuple(("give", "n" + str(k)) for k in range(9))
        many_parts = (("while", nots(20, PAIR), ()),)
        many_pairs = (("while", joined("or", 7), ()),)
        self.too_many("parts", 20, (), names + many_parts)
        self.too_many("pairs", 6, (), names + many_parts + many_pairs)
        self.too_many("pairs", 6, (), many_parts + many_pairs)
        self.too_many("statements", 40, (), names + many_parts + many_pairs + (("skip",),) * 30)
        self.refused_with(BadProgram, "value", None, Program, "p", (), names + many_parts + (("skip",),) * 99 + (None,))

    def test_rows_deep_within_one_another(self):
        block = ()
        for _ in range(59):
            block = (("loop", block),)
        self.too_many("statements", 40, (), block)
        self.too_many("parts", 20, (), (("while", nots(117, PAIR), ()),))
        self.refused_with(BadProgram, "value", None, Program, "p", (), (("while", nots(117, ("is", 0, None)), ()),))
        deep = 5
        for _ in range(119):
            deep = [deep]
        self.refused_with(BadProgram, "value", deep[0], Program, "p", (), deep)
        self.refused_with(BadProgram, "value", deep, Program, "p", (), [["give", deep]])
        self.refused_with(BadRow, "value", deep, Program, "p", deep, ())
        self.refused_with(BadName, "name", deep, Program, deep, (), ())

    def test_the_deepest_program(self):
        block = (("while", nots(19, PAIR), ()),)
        for _ in range(39):
            block = (("loop", block),)
        program = Program("p", (), listed(block))
        self.assertEqual(program.block, block)
        self.assertEqual(size(program), 40)
        self.assertEqual(program.names(), ("a",))
        self.assertEqual(renamed(program, (("a", "b"),)).names(), ("b",))


class Reading(Case):

    def test_names_in_order(self):
        program = Program("q", ("d", "c"), (
            ("set", "x", ("plus", "y", "x")), ("while", ("or", ("is", "z", 1), ("not", ("most", "c", "a"))), (
                ("set", "b", ("times", "z", 3)),)), ("give", "y")))
        self.assertEqual(program.names(), ("d", "c", "x", "y", "z", "a", "b"))
        block = (("set", "as", ("as", "plus1")), ("set", "set", ("plus", "test", "as")))
        self.assertEqual(Program("p", (), block).names(), ("as", "plus1", "set", "test"))
        self.assertEqual(Program("p", (), ()).names(), ())
        self.assertEqual(Program("p", ("u",), (("give", 7),)).names(), ("u",))
        self.assertEqual(Program("p", (), (("if", PAIR, (("give", "c"),), (("give", "b"),)),)).names(), ("a", "c", "b"))

    def test_size(self):
        self.assertEqual(size(Program("p", (), ())), 0)
        self.assertEqual(size(GCD), 7)
        self.assertEqual(size(STEPS), 10)
        self.assertEqual(size(program_of("program p\nif 1 is 1\nelse\nskip\nend\nloop\nend\nend")), 3)


class Renaming(Case):

    def test_everywhere_but_in_the_own_name(self):
        program = Program("a", ("a", "b"), (
            ("set", "b", ("plus", "a", "b")), ("set", "b", ("times", "b", 2)), ("set", "c", ("as", "a")), ("if", (
                "or", ("not", ("is", "a", 0)), ("and", ("below", "b", "a"), ("most", 1, "b"))), (
                    ("while", ("is", "a", "a"), (("give", "a"),)),), (("loop", (("give", "b"),)),))))
        told = Program("a", ("x", "b"), (
            ("set", "b", ("plus", "x", "b")), ("set", "b", ("times", "b", 2)), ("set", "c", ("as", "x")), ("if", (
                "or", ("not", ("is", "x", 0)), ("and", ("below", "b", "x"), ("most", 1, "b"))), (
                    ("while", ("is", "x", "x"), (("give", "x"),)),), (("loop", (("give", "b"),)),))))
        self.assertEqual(renamed(program, (("a", "x"),)), told)
        self.assertEqual(renamed(program, [["a", "x"]]), told)
        self.assertEqual(program.inputs, ("a", "b"))

    def test_all_at_once_and_in_rings(self):
        program = Program("p", ("a", "b"), (("set", "c", ("less", "a", "b")), ("give", "c")))
        self.assertEqual(renamed(program, (("a", "b"), ("b", "a"))),
                         Program("p", ("b", "a"), (("set", "c", ("less", "b", "a")), ("give", "c"))))
        self.assertEqual(renamed(program, (("a", "b"), ("b", "c"), ("c", "a"))),
                         Program("p", ("b", "c"), (("set", "a", ("less", "b", "c")), ("give", "a"))))
        self.assertEqual(renamed(program, (("a", "b"), ("b", "d"))),
                         Program("p", ("b", "d"), (("set", "c", ("less", "b", "d")), ("give", "c"))))

    def test_names_spelled_like_words_of_rows(self):
        program = Program("p", (), (("set", "set", ("as", "as")),))
        self.assertEqual(renamed(program, (("set", "as"), ("as", "set"))),
                         Program("p", (), (("set", "as", ("as", "set")),)))

    def test_first_ones_that_are_no_names_of_the_program(self):
        program = Program("p", ("a",), (("give", "a"),))
        self.assertEqual(renamed(program, (("x", "a"), ("p", "q"), ("a", "a"))), program)
        self.assertEqual(renamed(program, ()), program)
        self.assertEqual(renamed(program, (("x", "y"), ("z", "y"))), program)

    def test_names_that_would_become_the_same_one(self):
        program = Program("p", ("a",), (("give", "b"),))
        for pairs in ((("a", "b"),), (("b", "a"),), (("a", "c"), ("b", "c")), [["b", "d"], ["a", "d"], ["x", "a"]]):
            self.refused(Unlike, {"what": "names"}, renamed, program, pairs)

    def test_pairs_that_are_none(self):
        program = Program("p", ("a", "b"), ())
        for pairs in (None, 1, True, "ab", ("a", "b"), ("ab",), (("a",),), (("a", "b", "c"),), (("a", 1),), ((1, "a"),),
                      (("a", "of"),), (("A", "b"),), (("a", "b"), ("a", "b")), [["a", "c"], ["b", "d"], ["a", "b"]],
                      {("a", "b"): 1}, {"ab": 1}, ((("a",), "b"),), (("a", ["b"]),), (None,), ([],)):
            self.refused_with(BadRow, "value", pairs, renamed, program, pairs)
        self.refused(BadRow, {"value": (("a", "b"), ("a", "b"))}, renamed, program, (("a", "b"), ("a", "b")))

    def test_there_and_back(self):
        there = tuple(zip(NAMES, ("n0", "n1", "n2", "n3", "n4", "n5")))
        back = tuple((new, old) for old, new in there)
        for program in programs(11, 60):
            other = renamed(program, there)
            self.assertEqual(other.names(), tuple(dict(there)[name] for name in program.names()))
            self.assertEqual(size(other), size(program))
            self.assertEqual(renamed(other, back), program)


if __name__ == "__main__":
    unittest.main()
