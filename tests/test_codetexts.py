"""[54]: texts of code."""

import itertools
import random
import re
import unittest

from sevenpoints.codetexts import code_of_text, code_text
from sevenpoints.errors import BadText
from sevenpoints.machine import Code, Step
from tests.checks import Case
from tests.test_lines import codes
from tests.test_moves import at

SKIP = ("skip",)
GREAT = 999999999

ALL_KINDS = Code((
    Step(0, SKIP, (), 3),
    Step(3, ("set", 0, ("as", -5)), (), 4),
    Step(4, ("set", "a", ("plus", at("b"), at(12))), ((0, "a"), ("go", 0)), 5),
    Step(5, ("set", "go", ("less", 0, at("with"))), (("with", "from"),), 6),
    Step(6, ("set", "x1", ("times", at("as"), -GREAT)), (), 7),
    Step(7, ("set", None, ("times", -7, 3)), (("drop", "yes"),), 8),
    Step(8, ("set", None, ("as", at("no"))), (), 0),
    Step(10, ("test", ("below", at("test"), 3), True), (), 3),
    Step(10, ("test", ("most", 0, at(3)), False), ((GREAT, 0),), GREAT),
    Step(GREAT, ("test", ("is", at("set"), at("skip0")), True), (), 1),
    Step(1, ("give", at("from")), (("from", "go"),), 1),
    Step(2, ("give", -GREAT), (), 1),
))

ALL_TEXT = """0 skip go 3
3 set #0 as -5 go 4
4 set a as b plus #12 with #0 from a with go from #0 go 5
5 set go as 0 less with with with from from go 6
6 set x1 as as times -999999999 go 7
7 drop -7 times 3 with drop from yes go 8
8 drop no go 0
10 test test below 3 yes go 3
10 test 0 most #3 no with #999999999 from #0 go 999999999
999999999 test set is skip0 yes go 1
1 give from with from from go go 1
2 give -999999999 go 1
"""

INTEGERS = {"0": True, "7": True, "-3": False}
PLACES = ("#0", "#7", "a", "go", "with")
BAD_WORDS = ("", "#", "#-0", "#00", "#1234567890", "1234567890", "-0", "00", "07", "plus", "is", "A", "a\t", "#a", "+7", "7.", "ninesigns",
             "yes", "from", "if", ";")


def wordings():
    """All lines of words that tell a step with at most two moves, over a few places and integers."""
    numbers = [word for word in INTEGERS if INTEGERS[word]]
    operands = list(PLACES) + list(INTEGERS)
    values = [[one] for one in operands]
    values += [[one, word, other] for one in operands for word in ("plus", "less") for other in ("go", "-3")]
    values += [[one, "times", other] for one in operands for other in ("7",)]
    heads = [(["skip"], None)] + [(["give", one], None) for one in operands] + [(["drop"] + value, None) for value in values]
    heads += [(["set", place, "as"] + value, place) for place in PLACES for value in values]
    heads += [(["test", one, word, other, last], None) for one in operands for word in ("below", "most", "is") for other in ("#7", "0")
              for last in ("yes", "no")]
    for start in numbers:
        for head, changed in heads:
            for many in range(3):
                for tos in itertools.permutations([place for place in PLACES if place != changed], many):
                    moves = [word for to in tos for word in ("with", to, "from", "a" if to != "a" else "#7")]
                    for end in numbers[:1]:
                        yield [start] + head + moves + ["go", end]


def prefix_tree():
    """All beginnings of the lines of words."""
    return {tuple(words[:many]) for words in wordings() for many in range(len(words) + 1)} | {("",)}


class Writing(Case):

    def test_sign_by_sign(self):
        self.assertEqual(code_text(ALL_KINDS), ALL_TEXT)
        self.assertEqual(code_of_text(ALL_TEXT), ALL_KINDS)
        self.assertEqual(code_text(Code(())), "")

    def test_codes_of_placings_read_back(self):
        for program, placing, told in codes(57, 60):
            text = code_text(told)
            self.assertEqual(code_of_text(text), told)
            self.assertEqual(text.count("\n"), len(told.steps))

    def test_codes_at_random_read_back(self):
        dice = random.Random(58)
        places = [0, 5, 12, GREAT, "a", "go", "with", "from", "x1234567"]
        for _ in range(200):
            steps = []
            for _ in range(dice.randint(0, 5)):
                free = dice.sample(places, len(places))
                one, other = [dice.choice([at(dice.choice(places)), dice.randint(-GREAT, GREAT)]) for _ in range(2)]
                value = dice.choice([("as", one), ("plus", one, other), ("less", one, other), ("times", one, dice.randint(-GREAT, GREAT))])
                pair = (dice.choice(("below", "most", "is")), one, other)
                deed = dice.choice([SKIP, ("set", free.pop(), value), ("set", None, value), ("test", pair, True), ("test", pair, False), ("give", one)])
                moves = [(free.pop(), dice.choice(places)) for _ in range(dice.randint(0, 4))]
                steps.append(Step(dice.choice((0, 1, GREAT)), deed, moves, dice.randint(0, GREAT)))
            told = Code(steps)
            self.assertEqual(code_of_text(code_text(told)), told)
            self.assertEqual(code_text(code_of_text(code_text(told))), code_text(told))


class Reading(Case):

    def wrong(self, text, line, column):
        self.refused(BadText, {"line": line, "column": column}, code_of_text, text)

    def test_spaces_and_lines_without_words(self):
        told = code_of_text("\n  \n 0   skip go 3  \n\n3 give  #0 with #1 from  a go 1\n   ")
        self.assertEqual(told, Code((Step(0, SKIP, (), 3), Step(3, ("give", at(0)), ((1, "a"),), 1))))
        self.assertEqual(code_of_text("0 skip go 3"), Code((Step(0, SKIP, (), 3),)))
        for text in ("", "\n", " \n\n  "):
            self.assertEqual(code_of_text(text), Code(()))

    def test_what_is_told_is_made_of_tuples_and_integers(self):
        step = code_of_text("0 set a as #3 times 5 with b from #0 go 7\n").steps[0]
        self.assertIs(type(step.moves), tuple)
        self.assertEqual((step.start, step.deed, step.moves, step.end), (0, ("set", "a", ("times", at(3), 5)), (("b", 0),), 7))
        self.assertIs(code_of_text("0 test 0 is 0 yes go 7\n").steps[0].deed[2], True)
        self.assertIs(code_of_text("0 test 0 is 0 no go 7\n").steps[0].deed[2], False)

    def test_what_is_no_string(self):
        for value in (None, 3, True, b"", [], (), ["0 skip go 3"], ALL_KINDS):
            self.wrong(value, 0, 0)

    def test_the_first_wrong_word(self):
        for text, column in (
                ("skip", 1), ("-1 skip go 3", 1), ("-0 skip go 3", 1), ("00 skip go 3", 1), ("1234567890 skip go 3", 1), ("#0 skip go 3", 1),
                ("0", 2), ("0 jump", 2), ("0 go 3", 2), ("0 skip", 3), ("0 skip 3", 3), ("0 skip go", 4), ("0 skip go a", 4), ("0 skip go -3", 4),
                ("0 skip go 03", 4), ("0 skip go 3 4", 5), ("0 skip go 3 with a from b", 5), ("0 skip go 3\t", 4), ("0\tskip go 3", 1),
                ("0 set", 3), ("0 set 5", 3), ("0 set #", 3), ("0 set #-1", 3), ("0 set #01", 3), ("0 set #1234567890", 3), ("0 set # 1", 3),
                ("0 set if", 3), ("0 set A", 3), ("0 set a", 4), ("0 set a =", 4), ("0 set a as", 5), ("0 set a as plus", 5), ("0 set a as b", 6),
                ("0 set a as b c", 6), ("0 set a as b plus", 7), ("0 set a as b plus c plus", 8), ("0 set a as b times c", 7),
                ("0 set a as b times #0", 7), ("0 set a as b times 1234567890", 7), ("0 set a as b times -1234567890", 7), ("0 set a as -0", 5), ("0 set a as 1000000000", 5), ("0 set #1000000000", 3), ("1000000000 skip", 1), ("0 skip go 1000000000", 4),
                ("0 set None as 3", 3), ("0 drop a as b", 4), ("0 drop", 3), ("0 drop a plus", 5),
                ("0 test", 3), ("0 test a", 4), ("0 test a plus b", 4), ("0 test a is", 5), ("0 test a is b", 6), ("0 test a is b go 3", 6),
                ("0 test a is b True", 6), ("0 test a is b yes no", 7), ("0 test not a is b", 3), ("0 give", 3), ("0 give a b", 4),
                ("0 give a plus b", 4), ("0 give 1234567890 go 1", 3), ("0 skip with", 4), ("0 skip with 5", 4), ("0 skip with a", 5),
                ("0 skip with a to b", 5), ("0 skip with a from", 6), ("0 skip with a from 5", 6), ("0 skip with a from b", 7),
                ("0 skip with a from b with a from c go 3", 8), ("0 skip with #1 from b with a from c with #1 from c go 3", 12),
                ("0 set a as 3 with a from b go 3", 7), ("0 set #5 as 3 with a from b with #5 from b go 3", 11)):
            self.wrong(text, 1, column)
            self.wrong("0 skip go 3\n\n" + text + "\n1 also wrong", 3, column)

    def test_what_is_no_place_twice(self):
        for text in ("0 drop a with a from a go 0", "0 give a with a from b with b from a go 0", "0 set a as a with b from a go 0",
                     "0 test a is a yes with a from a with b from a go 0", "0 skip with #1 from b with #11 from #1 go 3"):
            self.assertEqual(len(code_of_text(text).steps), 1)

    def test_against_all_beginnings_of_lines(self):
        dice = random.Random(59)
        tree = prefix_tree()
        rows = list(wordings())
        vocabulary = list(PLACES) + list(INTEGERS) + [word for word in BAD_WORDS if word]
        seen = 0
        for _ in range(4000):
            words = list(dice.choice(rows))
            where = dice.randrange(len(words) + 1)
            way = dice.randrange(3)
            if way == 0:
                words[where:where + 1] = [dice.choice(vocabulary)]
            elif way == 1:
                words[where:where] = [dice.choice(vocabulary)]
            else:
                del words[where:where + dice.randint(1, 3)]
            if words.count("with") > 2 or not words:
                continue
            good = max(many for many in range(len(words) + 1) if tuple(words[:many]) in tree)
            if good < len(words) and may_stand(words[good]):
                continue
            text = " ".join(words)
            if words in rows:
                self.assertEqual(" ".join(code_text(code_of_text(text)).split()), text)
                continue
            seen += 1
            with self.subTest(text):
                self.wrong("\n " + text + "\n", 2, good + 1)
        self.assertGreater(seen, 1000)


def may_stand(word):
    """Whether a word is a place or an INTEGER, so perhaps right, though not among the few words of wordings."""
    return re.fullmatch("#?[07]|-3|a|go|with|yes|no|from|as|set|drop|test", word) is not None


if __name__ == "__main__":
    unittest.main()
