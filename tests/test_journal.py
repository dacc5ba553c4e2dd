"""[74] to [77]: the journal of a desk, its sums, and what is done again from it."""

import random
import unittest

from sevenpoints.desk import Desk
from sevenpoints.errors import BadNumber, BadText, NothingToRedo, NothingToUndo, PointError
from sevenpoints.journal import mended, replayed, sum_of
from sevenpoints.texts import program_text
from tests.checks import Case
from tests.samples import GCD, programs
from tests.test_desk import CROWDED, ECHO, NO_STRINGS, Raised, THREE, TWICE, state_of, steps_of, whole_of

WORDS_OF_ECHO = "program echo of x ; give x ; end"


def summed(*deeds):
    """The text of a journal with these deeds, the sums told from the definition."""
    text, told = "", 0
    for deed in deeds:
        told = (31 * told + sum(ord(sign) * place for place, sign in enumerate(deed, 1))) % 9973
        text += f"{deed} {told}\n"
    return text


def deeds_of(text):
    """The deeds of the lines of a text, without their sums."""
    return [line.rpartition(" ")[0] for line in text.split("\n")[:-1]]


class Unclosed(Exception):
    """The lines end within an attempt."""


def play(desk, deeds):
    """Do deeds, the next of which comes last, with the methods of a desk; up to the close of the attempt that it is in."""
    while deeds:
        deed = deeds.pop()
        words = deed.split()
        if deed == "close":
            return True
        if deed == "begin":
            def action(one):
                if not play(one, deeds):
                    raise Unclosed()
            desk.attempt(action)
        elif words[0] == "put":
            desk.put(words[1], deed.partition(":")[2].replace(";", "\n"))
        elif words[0] == "edit":
            desk.edit(words[1], int(words[2]), deed.partition(":")[2].replace(";", "\n"))
        elif words[0] in ("keep", "release"):
            getattr(desk, words[0])(deed.partition(":")[2])
        else:
            getattr(desk, words[0])(*words[1:])
    return False


def can_be_played(text):
    """Whether a text is the journal of a desk that has done its deeds."""
    desk = Desk()
    try:
        if play(desk, deeds_of(text)[::-1]):
            return False
    except (PointError, Unclosed, IndexError, ValueError, AttributeError, TypeError):
        return False
    return desk.journal() == text


def mended_by_hand(text):
    """The longest beginning of a text that is the journal of a desk."""
    ends = [at + 1 for at, sign in enumerate(text) if sign == "\n"]
    return max((text[:end] for end in [0] + ends if can_be_played(text[:end])), key=len)


def busy_desk():
    """A desk that has done a little of everything."""
    desk = Desk()
    desk.put("a", ECHO)
    desk.put("b", "\n\n" + ECHO.replace("x", "y   ") + "\n")
    desk.keep(" a  still 1 ")
    desk.keep("b gives 5 in 1 of 5")
    desk.edit("a", 2, "skip\n\n  give x")
    desk.edit("a", 2, "")
    desk.undo()
    desk.undo()
    desk.redo()

    def inner(one):
        one.put("c", THREE)
        one.undo()
        one.redo()
        one.attempt(lambda two: two.rename("c", "d"))
        one.put("d", TWICE)

    desk.attempt(inner)
    desk.change("d", "settled")
    desk.trial(lambda one: one.drop("a"))
    desk.attempt(lambda one: None)
    desk.undo()
    desk.release("a still 1")
    desk.drop("a")
    desk.undo()
    return desk


class Lines(Case):

    def test_each_kind_of_call(self):
        desk = Desk()
        deeds = []

        def behind(deed):
            deeds.append(deed)
            self.assertEqual(desk.journal(), summed(*deeds))

        self.assertEqual(desk.journal(), "")
        desk.put("a", "\n \n  program   echo of x\n\ngive  x \n end\n\n")
        behind("put a : " + WORDS_OF_ECHO)
        desk.put("b", "program b\nend")
        behind("put b : program b ; end")
        desk.keep("  a  still   1")
        behind("keep : a still 1")
        desk.keep("a still 1")
        behind("keep : a still 1")
        desk.edit("a", 2, " skip \n\n\n give   5\n")
        behind("edit a 2 : skip ; give 5")
        desk.edit("a", 2, "")
        behind("edit a 2 :")
        desk.edit("a", 4, "  \n \n")
        behind("edit a 4 :")
        desk.change("a", "dead")
        behind("change a dead")
        desk.rename("a", "c")
        behind("rename a c")
        desk.release("c   still 1 ")
        behind("release : c still 1")
        desk.drop("b")
        behind("drop b")
        desk.undo()
        behind("undo")
        desk.undo()
        behind("undo")
        desk.redo()
        behind("redo")

    def test_what_raises_is_not_told(self):
        desk = busy_desk()
        text = desk.journal()
        for call in (lambda: desk.put("a", ""), lambda: desk.put("A", THREE), lambda: desk.edit("a", 0, ""), lambda: desk.change("a", "b"),
                     lambda: desk.rename("a", "b"), lambda: desk.drop("z"), lambda: desk.keep("a still 0"), lambda: desk.release("a"),
                     lambda: desk.put("b", THREE), lambda: desk.attempt(lambda one: one.put("b", THREE)), lambda: desk.edit("b", 1, "program b")):
            with self.assertRaises(PointError):
                call()
            self.assertEqual(desk.journal(), text)

    def test_what_tells_only_is_not_told(self):
        desk = busy_desk()
        text = desk.journal()
        for call in (desk.names, desk.promises, desk.broken, desk.journal, desk.copied):
            call()
        for call in (desk.program, desk.text):
            call("a")
        desk.least("a", 1)
        desk.asked("a still 0")
        self.assertEqual(desk.journal(), text)

    def test_attempts(self):
        desk = Desk()
        desk.put("a", ECHO)
        seen = []

        def deepest(one):
            one.keep("a  still 1")
            seen.append(one.journal())

        def inner(one):
            one.put("b", THREE)
            one.undo()
            one.redo()
            one.attempt(deepest)
            with self.assertRaises(Raised):
                one.attempt(fails)
            with self.assertRaises(PointError):
                one.drop("z")
            one.trial(lambda two: two.drop("a"))
            one.undo()
            seen.append(one.journal())

        def fails(one):
            one.drop("a")
            one.attempt(lambda two: None)
            raise Raised()

        desk.attempt(inner)
        put = "put a : " + WORDS_OF_ECHO
        self.assertEqual(seen, [summed(put)] * 2)
        behind = [put, "begin", "put b : program three ; give 3 ; end", "undo", "redo", "begin", "keep : a still 1", "close", "undo", "close"]
        self.assertEqual(desk.journal(), summed(*behind))
        desk.attempt(lambda one: None)
        self.assertEqual(desk.journal(), summed(*behind, "begin", "close"))
        desk.undo()
        self.assertEqual(desk.journal(), summed(*behind, "begin", "close", "undo"))

    def test_trials_and_attempts_that_raise(self):
        desk = Desk()
        desk.put("a", ECHO)
        text = desk.journal()

        def fails(one):
            one.put("b", THREE)
            raise Raised()

        for call in (desk.attempt, desk.trial):
            with self.assertRaises(Raised):
                call(fails)
        told = desk.trial(lambda one: (one.put("b", THREE), one.attempt(lambda two: two.drop("a")), one.journal())[2])
        self.assertEqual(told, text)
        self.assertEqual(desk.journal(), text)

    def test_a_copy_has_done_puts_and_keeps_alone(self):
        desk = busy_desk()
        told = ["put a : program echo of x ; skip ; give x ; end", "put b : program echo of y ; give y ; end",
                "put d : program twice of x ; y = x plus x ; give y ; end"]
        self.assertEqual(desk.names(), ("a", "b", "d"))
        self.assertEqual(desk.copied().journal(), summed(*told, "keep : b gives 5 in 1 of 5"))


class Sums(Case):

    def test_sums(self):
        self.assertEqual(sum_of("", 0), 0)
        self.assertEqual(sum_of("a", 0), 97)
        self.assertEqual(sum_of("ab", 0), 97 + 2 * 98)
        self.assertEqual(sum_of("", 1), 31)
        self.assertEqual(sum_of("undo", 9972), (31 * 9972 + 117 + 2 * 110 + 3 * 100 + 4 * 111) % 9973)
        self.assertEqual(sum_of("x" * 40000, 5), (155 + 120 * 40000 * 40001 // 2) % 9973)
        self.assertEqual(sum_of(" \n\t", 0), 32 + 20 + 27)
        ahead = 0
        for line in busy_desk().journal().split("\n")[:-1]:
            deed, _, told = line.rpartition(" ")
            ahead = sum_of(deed, ahead)
            self.assertEqual(str(ahead), told)

    def test_one_character_exchanged(self):
        dice = random.Random(130)
        deed = busy_desk().journal().split("\n")[0]
        for at in range(len(deed)):
            other = dice.choice([sign for sign in map(chr, range(32, 127)) if sign != deed[at]])
            self.assertNotEqual(sum_of(deed[:at] + other + deed[at + 1:], 7), sum_of(deed, 7))

    def test_errors(self):
        for deed in NO_STRINGS:
            self.refused(BadText, {"line": 0, "column": 0}, sum_of, deed, None)
        for ahead in (None, -1, 9973, True, False, "1", 1.0, (1,)):
            self.refused(BadNumber, {"what": "ahead", "value": ahead}, sum_of, "a", ahead)


class Mended(Case):

    def same(self, text, whole):
        """mended tells just this, replayed a desk that has done it."""
        self.assertEqual(mended(text), whole)
        self.assertEqual(mended(whole), whole)
        self.assertEqual(replayed(text).journal(), whole)

    def test_whole_journals(self):
        desk = busy_desk()
        self.same(desk.journal(), desk.journal())
        self.same("", "")
        self.assertEqual(state_of(replayed("")), state_of(Desk()))

    def test_cut_at_every_character(self):
        text = busy_desk().journal()
        ends = [0]
        opened = 0
        for at, line in enumerate(text.split("\n")[:-1]):
            opened += line.startswith("begin ") - line.startswith("close ")
            if not opened:
                ends.append(len("\n".join(text.split("\n")[:at + 1])) + 1)
        for at in range(len(text) + 1):
            self.same(text[:at], text[:max(end for end in ends if end <= at)])

    def test_a_character_exchanged(self):
        text = busy_desk().journal()
        dice = random.Random(131)
        for at in range(len(text)):
            other = dice.choice([sign for sign in list(map(chr, range(32, 127))) + ["\n", "\t"] if sign != text[at]])
            told = text[:at] + other + text[at + 1:]
            whole = mended(told)
            self.assertTrue(told.startswith(whole))
            self.assertLessEqual(len(whole), at + (other == "\n"))
            self.assertEqual(whole, mended(text[:at]))
            self.assertEqual(mended(whole), whole)

    def test_lines_left_out_put_in_and_exchanged(self):
        dice = random.Random(132)
        text = busy_desk().journal()
        deeds = deeds_of(text)
        lines = text.split("\n")[:-1]
        kept = 0
        for _ in range(200):
            told = list(deeds)
            where = dice.randrange(len(deeds))
            way = dice.randrange(3)
            if way == 0:
                told[where:where + dice.randint(1, 2)] = []
            elif way == 1:
                told[where:where] = [dice.choice(deeds + ["drop z", "begin", "close", "undo", "redo", "put z : program z ; end"])]
            else:
                other = dice.randrange(len(deeds))
                told[where], told[other] = told[other], told[where]
            other = summed(*told)
            expected = mended_by_hand(other)
            self.same(other, expected)
            kept += expected == other
        self.assertGreater(kept, 20)
        # The same lines with their old sums.
        for where in range(len(lines) - 1):
            told = "\n".join(lines[:where] + lines[where + 1:]) + "\n"
            self.assertEqual(mended(told), mended("".join(line + "\n" for line in lines[:where])))

    def test_deeds_that_can_not_be_done(self):
        ahead = ["put a : " + WORDS_OF_ECHO, "keep : a still 1", "put b : program b ; end"]
        for deed in ("undo ", "redo", "drop c", "rename a b", "rename a A", "rename c d", "change a without", "change c dead", "keep : a still 0",
                     "keep : a", "keep :", "keep : ", "release : a", "release :", "edit a 0 :", "edit a 5 : skip", "edit a 3 : skip", "edit c 1 : skip", "close",
                     "put a : program a ; ende", "put A : program a ; end", "put c :", "put c : program a", "put a : " + CROWDED.replace("\n", " ; "),
                     "put a : program three ; give 3 ; a = b ; b = c ; end", "keep : b gives 5 in 5", "put", "edit", "keep", "drop", "rename", "change",
                     "release", "put a", "edit a", "edit a 2", ":", "", "begin close", "program a", "trial", "attempt", "copied", "journal", "names"):
            self.same(summed(*ahead, deed), summed(*ahead))

    def test_deeds_in_another_form_with_right_sums(self):
        ahead = ["put a : " + WORDS_OF_ECHO, "keep : a still 1", "edit a 2 : skip ; give x", "undo"]
        self.same(summed(*ahead), summed(*ahead))
        for deed in ("put b: program b ; end", "put b : program b; end", "put b :  program b ; end", " put b : program b ; end", "put b : program b ; end ",
                     "put  b : program b ; end", "put b : ; program b ; end", "put b : program b ; end ;", "put b : program b ; ; end", "PUT b : program b ; end",
                     "put b : program\tb ; end", "put b program b ; end", "edit a 02 : skip ; give x", "edit a +2 : skip ; give x", "edit a 2: skip ; give x",
                     "edit a 2 skip ; give x", "edit a 2 : skip ; give x ;", "edit a 2.0 : skip", "edit a two : skip", "edit a -0 : skip", "edit a 2 : ",
                     "edit a None : skip", "edit a 2 : skip  ; give x", "edit a " + "2" * 5000 + " : skip", "change a  dead", "change a dead dead", "change : a dead",
                     "rename a", "rename a b c", "rename  a b", "rename : a b", "drop a b", "drop : a", "drop  a", "keep a still 1", "keep :  a still 1",
                     "keep : a  still 1", "keep : a still 1 ", "release a still 1", "release :  a still 1", "release : a still  1", "undo undo", "undo :", "Undo",
                     "redo 1", "begin :", "begin 1", "close :", "put a : program a ; end\t", "edit a 1_0 : skip", "keep : a still 01"):
            self.same(summed(*ahead, deed), summed(*ahead))
            self.same(summed(*ahead, "begin", deed, "close"), summed(*ahead))

    def test_sums_in_another_form(self):
        ahead = "put a : " + WORDS_OF_ECHO
        told = sum_of("redo", 0)
        for wrong in (str(told + 1), "0" + str(told), "+" + str(told), str(told) + " ", " " + str(told), str(told + 9973), "-" + str(told), str(told) + ".0",
                      "", str(told)[:-1], "1" * 5000, str(told) + "\r"):
            text = summed(ahead, "undo")
            last = int(text.split(" ")[-1])
            right = sum_of("redo", last)
            bent = wrong.replace(str(told), str(right))
            if bent != str(right):
                self.same(text + f"redo {bent}\n", text)
            self.same(text + f"redo {right}\n", text + f"redo {right}\n")

    def test_attempts_that_are_open(self):
        put = "put a : " + WORDS_OF_ECHO
        for deeds, whole in ((["begin"], 0), (["begin", "close"], 2), ([put, "begin", put], 1), ([put, "begin", "begin", "close"], 1),
                             ([put, "begin", "begin", "close", "close"], 5), ([put, "begin", "undo"], 1), ([put, "begin", put, "undo", "close"], 5),
                             ([put, "begin", put, "undo", "close", "undo", "undo", "undo"], 7), (["close"], 0), ([put, "begin", "close", "close"], 3),
                             ([put, "begin", "close", "undo", "redo", "redo"], 5)):
            self.same(summed(*deeds), summed(*deeds[:whole]))

    def test_an_attempt_whose_promises_are_not_kept(self):
        ahead = ["put a : " + WORDS_OF_ECHO, "keep : a gives 5 in 1 of 5"]
        bad = ["begin", "put a : program three ; give 3 ; end", "close"]
        self.same(summed(*ahead, *bad, "undo"), summed(*ahead))
        good = ["begin", "put a : program three ; give 3 ; end", "undo", "close"]
        self.same(summed(*ahead, *good, "undo"), summed(*ahead, *good, "undo"))
        # Within an attempt nothing is looked at, even at the end of one within another.
        nested = ["begin"] + bad + ["release : a gives 5 in 1 of 5", "close"]
        self.same(summed(*ahead, *nested), summed(*ahead, *nested))
        nested = ["begin"] + bad + ["close"]
        self.same(summed(*ahead, *nested), summed(*ahead))
        nested = ["begin"] + bad + ["undo", "close"]
        self.same(summed(*ahead, *nested), summed(*ahead, *nested))

    def test_any_characters(self):
        text = busy_desk().journal()
        for more in ("\r\n", "\x00\n", "\ud800\n", "caf\u00e9 5\n", "\u0663 1\n", "undo \u00b2\n", "\n", " \n", "\n\n", "  0\n", " 0\n", "0\n", "x" * 40000 + "\n",
                     "undo" * 9000, "\u2028", "begin 5\n" * 900):
            self.same(text + more, text)
            self.same(text + more + text, text)
            self.same(more + text, "")

    def test_what_is_no_string(self):
        for text in NO_STRINGS:
            self.refused(BadText, {"line": 0, "column": 0}, mended, text)
            self.refused(BadText, {"line": 0, "column": 0}, replayed, text)

    def test_the_replayed_desk_undoes_and_does_again(self):
        desk = busy_desk()
        text = desk.journal()
        other = replayed(text)
        self.assertEqual(whole_of(other), whole_of(desk))
        for _ in range(3):
            for one in (desk, other):
                one.undo()
            self.assertEqual(state_of(other), state_of(desk))
            self.assertEqual(other.journal(), desk.journal())
        for one in (desk, other):
            one.redo()
            one.put("z", THREE)
            self.refused(NothingToRedo, {}, one.redo)
        self.assertEqual(whole_of(other), whole_of(desk))
        # An attempt that is cut leaves nothing, and the desk can be used.
        cut = replayed(text[:text.index("close")])
        self.assertEqual(cut.journal(), text[:text.index("begin")])
        cut.keep("a like a")
        self.assertGreater(cut.journal(), text[:text.index("begin")])
        cut.undo()
        self.assertEqual(cut.attempt(lambda one: one.names()), ("a", "b"))

    def test_at_the_limits(self):
        desk = Desk()
        for name in "abcdef":
            desk.put(name, program_text(GCD).replace("program gcd", "program " + name))
        promises = ("a as b from 0 to 13 in 400", "b like c", "c with 3 most 999999999", "d with 1 least 3", "e still 3", "f ready t",
                    "a gives 6 in 400 of 12 18", "e as f from -7 to 6 in 400")
        for promise in promises:
            desk.keep(promise)
        for at in range(33):
            desk.edit("abcdef"[at % 6], 2, "t = 3\nwhile not b is 0")
            desk.undo()
        self.assertEqual(desk.journal().count("\n"), 80)
        self.assertEqual(replayed(desk.journal()).promises(), promises)
        self.same(desk.journal(), desk.journal())
        self.assertEqual(state_of(desk.copied()), state_of(desk))

    def test_undo_at_the_end_of_all(self):
        desk = replayed(summed("put a : " + WORDS_OF_ECHO))
        desk.undo()
        self.refused(NothingToUndo, {}, desk.undo)
        self.assertEqual(desk.names(), ())

    def test_journals_at_random(self):
        for seed in range(25):
            dice = random.Random(seed)
            desk = Desk()
            texts = [ECHO, TWICE, THREE, program_text(GCD)] + [program_text(one) for one in programs(seed, 3)]
            states = {0: state_of(desk)}

            def some(one, depth):
                for _ in range(dice.randint(1, 5)):
                    call = dice.choice([
                        lambda: one.put(dice.choice("abc"), dice.choice(texts)), lambda: one.put(dice.choice("abc"), dice.choice(texts)),
                        lambda: one.rename(dice.choice("abc"), dice.choice("abcd")), lambda: one.drop(dice.choice("abcd")), one.undo, one.undo, one.redo,
                        lambda: one.change(dice.choice("abc"), dice.choice(("settled", "dead", "turned"))), lambda: one.edit("a", 2, "skip\nskip\n"),
                        lambda: one.keep(dice.choice(("a like b", "a like a", "b still 1", "c ready y"))), lambda: one.release("a like a"),
                        lambda: one.attempt(lambda two: some(two, depth + 1)) if depth < 3 else None,
                        lambda: one.trial(lambda two: some(two, depth + 1)) if depth < 3 else None])
                    try:
                        call()
                    except PointError:
                        if depth and dice.random() < 0.2:
                            raise
                    if not depth:
                        states[len(one.journal())] = state_of(one)

            for _ in range(5):
                some(desk, 0)
            text = desk.journal()
            self.same(text, text)
            other = replayed(text)
            self.assertEqual([state_of(other), steps_of(other, "undo"), steps_of(other, "redo")],
                             [state_of(desk), steps_of(desk, "undo"), steps_of(desk, "redo")])
            for end, state in states.items():
                self.assertEqual(state_of(replayed(text[:end + dice.randint(0, 3)])), state)


if __name__ == "__main__":
    unittest.main()
