"""[69] to [73], [77] and [78]: the desk, and the promises about its items."""

import itertools
import random
import re
import unittest

from sevenpoints.changes import followed, reached, reckoned, settled, turned, without_dead
from sevenpoints.desk import Desk
from sevenpoints.errors import (
    BadName, BadNumber, BadPromise, BadText, NoName, NothingToRedo, NothingToUndo, NotKept, PointError, TakenName, TooMany,
)
from sevenpoints.graphs import graph_of
from sevenpoints.leasts import least_cost
from sevenpoints.meaning import run
from sevenpoints.placings import cost, is_placing
from sevenpoints.texts import program_of, program_text
from sevenpoints.wants import wanted, way_to
from sevenpoints.webs import fewest_still
from tests.checks import Case
from tests.samples import GCD, STEPS, programs
from tests.test_changes import ALL

GCD_TEXT = program_text(GCD)
STEPS_TEXT = program_text(STEPS)
ECHO = "program echo of x\ngive x\nend"
TWICE = "program twice of x\ny = x plus x\ngive y\nend"
DOUBLE = "program double of z\ny = z times 2\ngive y\nend"
THREE = "program three\ngive 3\nend"
ROUND = "program round\nloop\nend\nend"
LATE = "program late of n\nwhile 0 below n\nn = n less 1\nend\ngive 7\nend"
CROWDED = "program crowded of a b c d\ne = a plus b\nf = c plus d\ng = e plus a\nh = f plus b\nif g below h\ngive c\nelse\ngive d\nend\nend"

NO_NAMES = (None, 3, True, "", "A", "if", "ninesigns", "a b", "1a", b"a", ("a",), ["a"], {}, object(), "a\n", " a")
NO_STRINGS = (None, 3, True, b"", [], (), ["a"], {}, object())


def desk_of(**texts):
    """A desk with these items."""
    desk = Desk()
    for name, text in texts.items():
        desk.put(name, text)
    return desk


def state_of(desk):
    """All that a desk tells of its items and promises."""
    return desk.names(), [desk.text(name) for name in desk.names()], desk.promises()


def whole_of(desk):
    """All that a desk tells, what could be undone and done again, too."""
    return state_of(desk), desk.journal(), steps_of(desk, "undo"), steps_of(desk, "redo")


def steps_of(desk, call):
    """The states that a desk comes to by undo, or by redo, again and again; it is left as it was."""
    rows = []
    back = "redo" if call == "undo" else "undo"
    journal = desk.keeping.levels[0].deeds
    kept = list(journal)
    try:
        while True:
            getattr(desk, call)()
            rows.append(state_of(desk))
    except (NothingToUndo, NothingToRedo):
        pass
    for _ in rows:
        getattr(desk, back)()
    journal[:] = kept
    return rows


class Raised(Exception):
    """An error of no package."""


class Puts(Case):

    def test_put(self):
        desk = Desk()
        self.assertEqual((desk.names(), desk.promises()), ((), ()))
        self.assertIsNone(desk.put("b", ECHO))
        desk.put("a", "  " + GCD_TEXT.replace(" ", "   "))
        self.assertEqual(desk.names(), ("b", "a"))
        self.assertEqual(desk.text("a"), GCD_TEXT)
        self.assertEqual(desk.program("a"), GCD)
        desk.put("b", THREE)
        self.assertEqual(desk.names(), ("b", "a"))
        self.assertEqual(desk.program("b"), program_of(THREE))

    def test_errors_of_put(self):
        desk = desk_of(a=ECHO)
        before = whole_of(desk)
        for name in NO_NAMES:
            self.refused_with(BadName, "name", name, desk.put, name, None)
        for text in NO_STRINGS:
            self.refused(BadText, {"line": 0, "column": 0}, desk.put, "a", text)
        self.refused(BadText, {"line": 3, "column": 1}, desk.put, "a", "program a\n\nbreak")
        self.refused(BadText, {"line": 1, "column": 1}, desk.put, "b", "")
        self.assertEqual(whole_of(desk), before)

    def test_edit(self):
        desk = desk_of(a=GCD_TEXT)
        lines = GCD_TEXT.split("\n")[:-1]
        self.assertIsNone(desk.edit("a", 3, "t = a plus 0\n\nskip"))
        self.assertEqual(desk.program("a"), program_of("\n".join(lines[:2] + ["t = a plus 0", "skip"] + lines[3:])))
        desk.undo()
        desk.edit("a", 3, "")
        self.assertEqual(desk.program("a"), program_of("\n".join(lines[:2] + lines[3:])))
        desk.undo()
        desk.edit("a", 3, "\n")
        self.assertEqual(desk.program("a"), program_of("\n".join(lines[:2] + lines[3:])))
        desk.undo()
        desk.edit("a", 1, "program other of a b c\n")
        self.assertEqual(desk.program("a").inputs, ("a", "b", "c"))
        desk.undo()
        desk.edit("a", len(lines) + 1, "  \n ")
        self.assertEqual(desk.program("a"), GCD)
        desk.edit("a", len(lines), "give 5\nend")
        self.assertEqual(desk.program("a"), program_of("\n".join(lines[:-1] + ["give 5", "end"])))

    def test_errors_of_edit(self):
        desk = desk_of(a=GCD_TEXT)
        many = GCD_TEXT.count("\n")
        before = whole_of(desk)
        for name in NO_NAMES + ("b",):
            self.refused_with(NoName, "name", name, desk.edit, name, None, None)
        for line in (None, 0, -1, True, many + 2, "1", 1.0, (1,), 10 ** 30):
            self.refused(BadNumber, {"what": "line", "value": line}, desk.edit, "a", line, None)
        for text in NO_STRINGS:
            self.refused(BadText, {"line": 0, "column": 0}, desk.edit, "a", 1, text)
        self.refused(BadText, {"line": 4, "column": 2}, desk.edit, "a", 3, "t = a\nt 5")
        self.refused(BadText, {"line": 4, "column": 4}, desk.edit, "a", 3, "t = a\nt = 5 5")
        self.refused(BadText, {"line": many + 1, "column": 1}, desk.edit, "a", many + 1, "skip")
        # Behind the last line all could still go on, but it is over.
        self.refused(BadText, {"line": many, "column": 1}, desk.edit, "a", many, "")
        self.refused(BadText, {"line": many + 3, "column": 1}, desk.edit, "a", many, "\n\n\n")
        self.refused(BadText, {"line": 1, "column": 1}, desk.edit, "a", 1, "")
        self.assertEqual(whole_of(desk), before)

    def test_change(self):
        words = {"reached": reached, "dead": without_dead, "followed": followed, "reckoned": reckoned, "turned": turned, "settled": settled}
        self.assertEqual(set(words.values()), set(ALL))
        for program in programs(120, 25):
            for word, change in words.items():
                desk = desk_of(a=program_text(program), b=THREE)
                self.assertIsNone(desk.change("a", word))
                self.assertEqual(desk.program("a"), change(program))
                self.assertEqual(desk.names(), ("a", "b"))

    def test_errors_of_change(self):
        desk = desk_of(a=GCD_TEXT)
        before = whole_of(desk)
        for name in NO_NAMES + ("b",):
            self.refused_with(NoName, "name", name, desk.change, name, "settled")
        for word in NO_NAMES + ("without_dead", "swapped", "b", "Dead", "renamed"):
            self.refused_with(BadName, "name", word, desk.change, "a", word)
        self.assertEqual(whole_of(desk), before)

    def test_rename(self):
        desk = desk_of(a=ECHO, b=THREE, c=ECHO)
        for promise in ("a like a", "a as c from 0 to 1 in 5", "c as a from 0 to 1 in 5", "b gives 3 in 1"):
            desk.keep(promise)
        self.assertIsNone(desk.rename("a", "with"))
        self.assertEqual(desk.names(), ("with", "b", "c"))
        self.assertEqual(desk.promises(), ("with like with", "with as c from 0 to 1 in 5", "c as with from 0 to 1 in 5", "b gives 3 in 1"))
        self.assertEqual(desk.text("with"), program_text(program_of(ECHO)))
        desk.rename("c", "a")
        self.assertEqual(desk.promises()[1:3], ("with as a from 0 to 1 in 5", "a as with from 0 to 1 in 5"))

    def test_words_that_do_not_stand_for_items_stay(self):
        desk = desk_of(x="program p of x y\ny = x\ngive y\nend", still=ECHO)
        desk.keep("x ready y")
        desk.keep("x still 2")
        desk.keep("still still 1")
        desk.rename("still", "y")
        desk.rename("x", "still")
        self.assertEqual(desk.promises(), ("still ready y", "still still 2", "y still 1"))

    def test_errors_of_rename(self):
        desk = desk_of(a=GCD_TEXT, b=THREE)
        before = whole_of(desk)
        for name in NO_NAMES + ("c",):
            self.refused_with(NoName, "name", name, desk.rename, name, None)
        for new in NO_NAMES:
            self.refused_with(BadName, "name", new, desk.rename, "a", new)
        for new in ("a", "b"):
            self.refused_with(TakenName, "name", new, desk.rename, "a", new)
        self.assertEqual(whole_of(desk), before)

    def test_drop(self):
        desk = desk_of(a=ECHO, b=THREE, c=ECHO)
        for promise in ("a like a", "a as c from 0 to 1 in 5", "c as a from 0 to 1 in 5", "b gives 3 in 1", "c like c", "b like b"):
            desk.keep(promise)
        self.assertIsNone(desk.drop("a"))
        self.assertEqual((desk.names(), desk.promises()), (("b", "c"), ("b gives 3 in 1", "c like c", "b like b")))
        desk.undo()
        self.assertEqual((desk.names(), len(desk.promises())), (("a", "b", "c"), 6))
        for name in NO_NAMES + ("d",):
            self.refused_with(NoName, "name", name, desk.drop, name)

    def test_names_are_not_those_of_programs(self):
        desk = desk_of(a=ECHO)
        desk.put("echo", "program a\nend")
        self.assertEqual((desk.program("a").name, desk.program("echo").name), ("echo", "a"))
        desk.rename("a", "b")
        self.assertEqual(desk.program("b").name, "echo")

    def test_what_is_told(self):
        desk = desk_of(a=GCD_TEXT)
        for call in (desk.program, desk.text):
            for name in NO_NAMES + ("b",):
                self.refused_with(NoName, "name", name, call, name)
        for name in NO_NAMES + ("b",):
            self.refused_with(NoName, "name", name, desk.least, name, None)
        for registers in (None, -1, True, "1", 1.0, [1], {}):
            self.refused(BadNumber, {"what": "registers", "value": registers}, desk.least, "a", registers)
        edges = len(graph_of(GCD).edges)
        self.assertEqual([desk.least("a", registers) for registers in range(4)], [least_cost(GCD, registers, (1,) * edges) for registers in range(4)])
        desk.put("c", CROWDED)
        self.refused(TooMany, {"what": "stands", "limit": 20000}, desk.least, "c", 5)


class Promises(Case):

    def setUp(self):
        self.desk = desk_of(echo=ECHO, twice=TWICE, double=DOUBLE, three=THREE, round=ROUND, late=LATE, gcd=GCD_TEXT, steps=STEPS_TEXT)

    def kept(self, *promises):
        for promise in promises:
            self.assertEqual(self.desk.asked(promise), (True, None))

    def broken(self, promise, witness):
        told = self.desk.asked(promise)
        self.assertIs(told[0], False)
        self.assertEqual(told, (False, witness))
        self.assertEqual(type(told[1]), type(witness))
        error = self.refused(NotKept, {"promise": " ".join(promise.split())}, self.desk.keep, promise)
        self.assertEqual(error.witness, witness)

    def test_with_most(self):
        edges = len(graph_of(GCD).edges)
        for registers in range(4):
            least = least_cost(GCD, registers, (1,) * edges)
            self.kept(f"gcd with {registers} most {least}", f"gcd with {registers} most 999999999")
            if least:
                self.broken(f"gcd with {registers} most {least - 1}", least)
                self.broken(f"gcd with {registers} most 0", least)

    def test_with_least(self):
        edges = len(graph_of(GCD).edges)
        for registers in range(4):
            least = least_cost(GCD, registers, (1,) * edges)
            self.kept(f"gcd with {registers} least {least}", f"gcd with {registers} least 0")
            for many in (least + 1, 999999999):
                kept, witness = self.desk.asked(f"gcd with {registers} least {many}")
                self.assertIs(kept, False)
                self.assertIs(is_placing(GCD, registers, witness), True)
                self.assertLess(cost(GCD, (1,) * edges, witness), many)
                error = self.refused(NotKept, {"promise": f"gcd with {registers} least {many}"}, self.desk.keep, f"gcd with {registers} least {many}")
                self.assertLess(cost(GCD, (1,) * edges, error.witness), many)

    def test_still(self):
        for name in self.desk.names():
            fewest = fewest_still(self.desk.program(name))
            for registers in range(4):
                if registers >= fewest:
                    self.kept(f"{name} still {registers}")
                else:
                    self.broken(f"{name} still {registers}", fewest)

    def test_ready(self):
        for name in self.desk.names():
            program = self.desk.program(name)
            for one in program.names():
                if one in wanted(graph_of(program))[0]:
                    self.broken(f"{name} ready {one}", way_to(graph_of(program), 0, one))
                else:
                    self.kept(f"{name} ready {one}")
        self.assertEqual(self.desk.asked("twice ready x"), (False, (0,)))
        self.kept("twice ready y")

    def test_gives(self):
        self.kept("three gives 3 in 1", "three gives 3 in 400", "echo gives -5 in 1 of -5", "gcd gives 6 in 400 of 12 18")
        self.broken("three gives 4 in 5", 3)
        self.broken("three gives 3 in 0", None)
        self.broken("round gives 0 in 400", None)
        self.broken("gcd gives 6 in 400 of 12 19", 1)
        turns = run(STEPS, (3,), 400).turns
        value = run(STEPS, (3,), 400).value
        self.kept(f"steps gives {value} in {turns} of 3")
        self.broken(f"steps gives {value} in {turns - 1} of 3", None)
        self.kept("echo gives 999999999 in 1 of 999999999", "echo gives -999999999 in 1 of -999999999")

    def test_as(self):
        self.kept("twice as double from -20 to 20 in 2", "twice as double from 5 to 5 in 0", "gcd as gcd from 0 to 13 in 400", "round as round from 0 to 0 in 5")
        self.broken("echo as twice from -2 to 2 in 3", (-2,))
        self.broken("echo as twice from 0 to 2 in 3", (1,))
        self.kept("echo as twice from 0 to 0 in 3")
        # The one is done within a turn, the other is not.
        self.broken("echo as twice from 0 to 0 in 1", (0,))
        self.broken("echo as three from 0 to 0 in 3", None)
        self.broken("gcd as echo from 0 to 0 in 3", None)
        self.broken("three as round from -99 to 99 in 3", ())
        self.kept("three as round from -99 to 99 in 0")
        self.desk.drop("late")
        self.desk.put("late", "program p of a b\nif a below b\ngive 1\nend\nend")
        self.desk.drop("steps")
        self.desk.put("steps", "program p of a b\nif 3 is b\nif 1 is a\ngive 1\nend\nend\nif a below b\ngive 1\nend\nend")
        self.kept("late as steps from 0 to 3 in 9")
        self.desk.put("steps", "program p of a b\nif 1 is b\nif 3 is a\ngive 1\nend\nend\nif a below b\ngive 1\nend\nend")
        self.broken("late as steps from 0 to 4 in 9", (3, 1))

    def test_as_tells_the_least_row(self):
        desk = desk_of(a="program p of a b\ngive 0\nend", b="program p of a b\nif a below 2\ngive 0\nend\nif b below 1\ngive 0\nend\ngive 1\nend")
        self.assertEqual(desk.asked("a as b from -3 to 4 in 9"), (False, (2, 1)))
        self.assertEqual(desk.asked("b as a from -3 to 4 in 9"), (False, (2, 1)))
        self.assertEqual(desk.asked("b as a from 3 to 4 in 9"), (False, (3, 3)))

    def test_like(self):
        self.kept("echo like echo")
        self.broken("twice like double", None)
        self.broken("echo like three", None)
        self.desk.put("late", "program other of x\ny = x\nz = y plus 0\ngive z\nend")
        self.kept("echo like late", "late like echo")
        # With inputs of other names they are not alike, and with the same block neither.
        self.desk.put("late", "program echo of x y\ngive x\nend")
        self.broken("late like echo", None)
        self.desk.put("late", "program echo of y\ngive y\nend")
        self.broken("late like echo", None)

    def test_further_spaces_and_what_is_one(self):
        self.kept("  echo   like  echo ")
        self.desk.keep("  echo   like  echo ")
        self.desk.keep("echo like echo")
        self.assertEqual(self.desk.promises(), ("echo like echo",))
        self.desk.keep("three gives 3 in 1")
        self.desk.keep(" echo like echo")
        self.assertEqual(self.desk.promises(), ("echo like echo", "three gives 3 in 1"))
        self.assertIsNone(self.desk.release("three   gives 3  in 1 "))
        self.assertEqual(self.desk.promises(), ("echo like echo",))
        self.broken("  three gives   4 in 5 ", 3)

    def test_release_of_none(self):
        self.desk.keep("echo like echo")
        before = whole_of(self.desk)
        for promise in NO_STRINGS + ("", "echo  like twice", "echo like", "echo like echo echo", "echo like echo\n", "echo\tlike echo"):
            self.refused_with(NoName, "name", promise, self.desk.release, promise)
        self.assertEqual(whole_of(self.desk), before)

    def test_every_row_of_bounds(self):
        self.kept("echo as echo from -99 to 99 in 5", "gcd as gcd from 0 to 13 in 9")
        self.refused(TooMany, {"what": "rows", "limit": 200}, self.desk.asked, "gcd as gcd from 0 to 14 in 9")
        self.refused(TooMany, {"what": "rows", "limit": 200}, self.desk.asked, "gcd as echo from 0 to 99 in 9")
        self.kept("three as three from -99 to 99 in 9")
        # Only the rows of the first one count.
        self.broken("echo as gcd from -99 to 99 in 9", None)
        desk = desk_of(a="program p of a b c\ngive a\nend", b="program p of a b c d\ngive a\nend")
        self.assertEqual(desk.asked("a as a from 0 to 4 in 1"), (True, None))
        self.refused(TooMany, {"what": "rows", "limit": 200}, desk.asked, "a as a from 0 to 5 in 1")
        self.assertEqual(desk.asked("b as b from -1 to 1 in 1"), (True, None))
        self.refused(TooMany, {"what": "rows", "limit": 200}, desk.keep, "b as b from -2 to 1 in 1")

    def test_too_many_stands(self):
        desk = desk_of(c=CROWDED.replace("crowded", "c"))
        for word in ("most", "least"):
            self.refused(TooMany, {"what": "stands", "limit": 20000}, desk.asked, f"c with 3 {word} 5")
            self.refused(TooMany, {"what": "stands", "limit": 20000}, desk.keep, f"c with 3 {word} 5")
        # A wrong word goes ahead.
        self.refused(BadPromise, {"column": 5}, desk.asked, "c with 3 most -1")
        self.refused(BadPromise, {"column": 9}, desk.asked, "c as c from -99 to 99 in 401")


def number(low, high):
    """Whether a word is an INTEGER from low to high."""
    return lambda word, ahead: re.fullmatch("0|-?[1-9][0-9]{0,8}", word) is not None and low <= int(word) <= high


def just(*words):
    """Whether a word is one of these."""
    return lambda word, ahead: word in words


def patterns(desk):
    """What the words of all promises may be, given those ahead of them."""
    item, wide = just(*desk.names()), number(-999999999, 999999999)
    turns = (just("in"), number(0, 400))
    found = []
    for name in desk.names():
        program, one = desk.program(name), just(name)
        found.append((one, just("with"), number(0, 3), just("most", "least"), number(0, 999999999)))
        found.append((one, just("still"), number(0, 3)))
        if program.names():
            found.append((one, just("ready"), just(*program.names())))
        inputs = (just("of"),) + (wide,) * len(program.inputs) if program.inputs else ()
        found.append((one, just("gives"), wide) + turns + inputs)
        found.append((one, just("as"), item, just("from"), number(-99, 99), just("to"),
                      lambda word, ahead: number(int(ahead[4]), 99)(word, ahead)) + turns)
        found.append((one, just("like"), item))
    return found


def wrong_column(desk, text):
    """The number of the first wrong word, None if there is none."""
    words = [word for word in text.split(" ") if word]
    best = 0
    for pattern in patterns(desk):
        good = 0
        while good < min(len(words), len(pattern)) and pattern[good](words[good], words[:good]):
            good += 1
        if good == len(words) == len(pattern):
            return None
        best = max(best, good)
    return best + 1


class Words(Case):

    def setUp(self):
        # Items that are called like words of promises.
        self.desk = desk_of(a=ECHO, gcd=GCD_TEXT, with0=THREE, like=TWICE, gives=ROUND)
        self.desk.rename("with0", "with")

    def test_by_hand(self):
        for promise, column in (
                ("", 1), ("   ", 1), ("b", 1), ("a", 2), ("A with 3 most 5", 1), ("a most", 2), ("a with", 3), ("a with 4", 3), ("a with -1", 3),
                ("a with 00", 3), ("a with 1", 4), ("a with 1 less", 4), ("a with 1 most", 5), ("a with 1 most -1", 5), ("a with 1 most 1234567890", 5),
                ("a with 1 most 05", 5), ("a with 1 most 5 5", 6), ("a with 1 most -0", 5), ("a still", 3), ("a still 4", 3), ("a still 3 3", 4),
                ("a ready", 3), ("a ready y", 3), ("a ready x x", 4), ("with ready", 2), ("gives ready x", 2), ("a gives", 3), ("a gives x", 3),
                ("a gives 1234567890", 3), ("a gives 1000000000", 3), ("a gives -1000000000", 3), ("a with 1 most 1000000000", 5), ("a gives -1234567890", 3), ("a gives 5", 4), ("a gives 5 of", 4), ("a gives 5 in", 5), ("a gives 5 in 401", 5),
                ("a gives 5 in -1", 5), ("a gives 5 in 400", 6), ("a gives 5 in 4 5", 6), ("a gives 5 in 4 of", 7), ("a gives 5 in 4 of 5 6", 8),
                ("with gives 3 in 4 of", 6), ("gcd gives 3 in 4 of 5", 8), ("gcd gives 3 in 4 of 5 6 7", 9), ("a gives 5 in 4 of 1234567890", 7),
                ("a as", 3), ("a as b", 3), ("a as a", 4), ("a as a to", 4), ("a as a from", 5), ("a as a from 100", 5), ("a as a from -100", 5),
                ("a as a from 5 in", 6), ("a as a from 5 to 4", 7), ("a as a from 5 to 100", 7), ("a as a from -99 to 99 in", 9), ("a as a from 5 to", 7),
                ("a as a from 5 to 5 of", 8), ("a as a from 5 to 5 in 401", 9), ("a as a from 5 to 5 in 5 5", 10), ("a like", 3), ("a like b", 3),
                ("a like a a", 4), ("a\tlike a", 1), ("a like a\n", 3), ("\na like a", 1), ("a like\ta", 2)):
            self.assertEqual(wrong_column(self.desk, promise), column, promise)
            for call in (self.desk.asked, self.desk.keep):
                self.refused(BadPromise, {"column": column}, call, promise)

    def test_items_called_like_words(self):
        for promise in ("with with 0 most 0", "with like like", "like like with", "gives gives 0 in 5", "like as like from 0 to 1 in 5",
                        "with still 0", "gives still 0"):
            self.assertIsNone(wrong_column(self.desk, promise))
            self.desk.asked(promise)
        self.desk.keep("with gives 3 in 5")
        self.desk.keep("like as like from 0 to 1 in 5")
        self.desk.rename("like", "as")
        self.assertEqual(self.desk.promises(), ("with gives 3 in 5", "as as as from 0 to 1 in 5"))

    def test_what_is_no_string(self):
        for promise in NO_STRINGS:
            for call in (self.desk.asked, self.desk.keep):
                self.refused(BadPromise, {"column": 0}, call, promise)

    def test_without_items(self):
        for promise in ("", "a", "a like a"):
            self.refused(BadPromise, {"column": 1}, Desk().asked, promise)

    def test_words_exchanged_left_out_and_put_in(self):
        dice = random.Random(121)
        right = ["a with 2 most 5", "gcd with 0 least 7", "like still 1", "gcd ready a", "a gives 5 in 3 of 5", "gcd gives 5 in 3 of -5 6",
                 "with gives 3 in 9", "a as like from -3 to 4 in 9", "gcd as gcd from 0 to 2 in 30", "gcd like a", "gives like with"]
        vocabulary = ("a gcd with like gives b most least still ready as from to in of 0 1 3 4 -1 5 99 100 -99 -100 400 401 999999999 1234567890 "
                      "-0 00 07 x y t + 3. A ; plus").split()
        seen = 0
        for _ in range(3000):
            words = dice.choice(right).split()
            for _ in range(dice.randint(1, 2)):
                where = dice.randrange(len(words) + 1)
                words[where:where + dice.randint(0, 1)] = dice.sample(vocabulary, dice.randint(0, 1))
            text = (" " * dice.randint(1, 2)).join(words)
            column = wrong_column(self.desk, text)
            if column is None:
                try:
                    self.assertIn(self.desk.asked(text)[0], (True, False))
                except TooMany as error:
                    self.assertEqual((error.what, error.limit), ("rows", 200))
            else:
                self.refused(BadPromise, {"column": column}, self.desk.asked, text)
                seen += 1
        self.assertGreater(seen, 1500)


class Edits(Case):

    def test_promises_are_looked_at_behind_each_edit(self):
        desk = desk_of(a=ECHO, b=ECHO)
        desk.keep("a gives 5 in 1 of 5")
        desk.keep("b like a")
        before = whole_of(desk)
        self.refused(NotKept, {"promise": "a gives 5 in 1 of 5", "witness": 10}, desk.put, "a", TWICE.replace("y = x plus x\ngive y", "give 10"))
        self.refused(NotKept, {"promise": "a gives 5 in 1 of 5", "witness": None}, desk.put, "a", TWICE)
        self.refused(NotKept, {"promise": "b like a", "witness": None}, desk.put, "b", TWICE)
        self.refused(NotKept, {"promise": "b like a", "witness": None}, desk.edit, "b", 2, "give 5")
        # The first one that can not be asked or is not kept counts.
        self.refused(BadPromise, {"column": 6}, desk.put, "a", THREE)
        self.assertEqual(whole_of(desk), before)

    def test_whichever_comes_first(self):
        for promises, error, fields in (
                (("b like a", "a gives 5 in 2 of 5"), NotKept, {"promise": "b like a", "witness": None}),
                (("a gives 5 in 2 of 5", "b like a"), BadPromise, {"column": 6}),
                (("a ready y", "b like a"), BadPromise, {"column": 2}),
                (("b like a", "a ready y"), NotKept, {"promise": "b like a", "witness": None}),
                (("a as b from -99 to 99 in 3", "a ready y"), NotKept, {"promise": "a as b from -99 to 99 in 3", "witness": None})):
            text = "program p of x\ny = x\ngive x\nend"
            desk = desk_of(a=text, b=text)
            for promise in promises:
                desk.keep(promise)
            before = whole_of(desk)
            self.refused(error, fields, desk.put, "a", THREE)
            self.assertEqual(whole_of(desk), before)

    def test_too_many_rows_and_stands_behind_an_edit(self):
        desk = desk_of(a=ECHO, b=ECHO)
        desk.keep("a as a from -99 to 99 in 1")
        self.refused(TooMany, {"what": "rows", "limit": 200}, desk.put, "a", "program p of x y\ngive x\nend")
        desk = desk_of(a=ECHO)
        desk.keep("a with 3 most 0")
        self.refused(TooMany, {"what": "stands", "limit": 20000}, desk.put, "a", CROWDED)

    def test_keep_looks_at_once(self):
        desk = desk_of(a=ECHO)
        before = whole_of(desk)
        self.refused(NotKept, {"promise": "a still 0", "witness": 1}, desk.keep, "a  still 0")
        self.refused(BadPromise, {"column": 3}, desk.keep, "a still")
        self.assertEqual(whole_of(desk), before)
        self.assertIsNone(desk.keep("a still 1"))
        for call in (desk.attempt, desk.trial):
            self.refused(NotKept, {"promise": "a still 0", "witness": 1}, call, lambda one: one.keep("a still 0"))

    def test_change_breaks_no_gives(self):
        dice = random.Random(122)
        for program in programs(122, 40):
            desk = desk_of(a=program_text(program))
            row = tuple(dice.randint(-3, 9) for _ in program.inputs)
            told = run(program, row, 60)
            if told is None or abs(told.value) > 999999999:
                continue
            desk.keep(f"a gives {told.value} in {told.turns}" + (" of " + " ".join(map(str, row)) if row else ""))
            for word in ("turned", "reckoned", "followed", "dead", "reached", "settled"):
                desk.change("a", word)

    def test_undo_and_redo(self):
        desk = Desk()
        self.refused(NothingToUndo, {}, desk.undo)
        self.refused(NothingToRedo, {}, desk.redo)
        states = [state_of(desk)]
        deeds = [lambda: desk.put("a", ECHO), lambda: desk.put("b", THREE), lambda: desk.keep("a still 1"), lambda: desk.rename("a", "c"),
                 lambda: desk.put("b", THREE), lambda: desk.keep("c still 1"), lambda: desk.change("b", "dead"), lambda: desk.edit("c", 2, "give 5"),
                 lambda: desk.release("c still 1"), lambda: desk.drop("c")]
        for deed in deeds:
            self.assertIsNone(deed())
            states.append(state_of(desk))
        for at in reversed(range(len(deeds))):
            self.assertIsNone(desk.undo())
            self.assertEqual(state_of(desk), states[at])
        self.refused(NothingToUndo, {}, desk.undo)
        for at in range(4):
            self.assertIsNone(desk.redo())
            self.assertEqual(state_of(desk), states[at + 1])
        desk.undo()
        desk.redo()
        # An error is no edit, an edit that changes nothing is one.
        self.refused(NoName, {"name": "a"}, desk.drop, "a")
        desk.redo()
        desk.undo()
        desk.keep("c still 1")
        self.refused(NothingToRedo, {}, desk.redo)
        desk.undo()
        self.assertEqual(state_of(desk), states[4])
        desk.undo()
        self.assertEqual(state_of(desk), states[3])

    def test_undo_looks_at_nothing(self):
        desk = desk_of(a=ECHO)
        desk.keep("a still 1")
        desk.put("a", "program p of x\ngive x\nskip\nend")
        desk.release("a still 1")
        desk.put("a", TWICE)
        for _ in range(3):
            desk.undo()
        self.assertEqual(desk.promises(), ("a still 1",))


class Attempts(Case):

    def test_one_edit(self):
        desk = desk_of(a=ECHO, b=ECHO)
        desk.keep("a like b")
        before = state_of(desk)

        def both(one):
            self.assertIs(one, desk)
            one.put("a", TWICE)
            self.assertEqual(one.broken(), (("a like b", None),))
            one.put("b", TWICE)
            return "told"

        self.assertEqual(desk.attempt(both), "told")
        self.assertEqual(desk.text("a"), program_text(program_of(TWICE)))
        behind = state_of(desk)
        desk.undo()
        self.assertEqual(state_of(desk), before)
        desk.redo()
        self.assertEqual(state_of(desk), behind)

    def test_promises_at_the_end(self):
        desk = desk_of(a=ECHO, b=ECHO)
        desk.keep("a like b")
        desk.put("c", THREE)
        desk.undo()
        before = whole_of(desk)
        self.refused(NotKept, {"promise": "a like b", "witness": None}, desk.attempt, lambda one: one.put("a", TWICE))
        self.assertEqual(whole_of(desk), before)
        desk.redo()
        self.assertEqual(desk.names(), ("a", "b", "c"))
        desk.undo()

        def inner(one):
            one.attempt(lambda two: two.put("a", TWICE))
            self.assertEqual(one.asked("a like b"), (False, None))
            one.put("b", TWICE)

        desk.attempt(inner)
        self.assertEqual(desk.broken(), ())

    def test_a_promise_that_can_not_be_asked(self):
        desk = desk_of(a=ECHO)
        desk.keep("a gives 3 in 1 of 3")

        def bend(one):
            one.put("a", THREE)
            self.refused(BadPromise, {"column": 6}, one.broken)
            one.put("b", THREE)

        before = whole_of(desk)
        self.refused(BadPromise, {"column": 6}, desk.attempt, bend)
        self.assertEqual(whole_of(desk), before)

    def test_errors_of_any_kind(self):
        for call in ("attempt", "trial"):
            for error in (Raised("why"), ValueError(), KeyError("k"), KeyboardInterrupt(), StopIteration(), SystemExit(3), NoName("x")):
                desk = desk_of(a=ECHO)
                desk.put("b", THREE)
                desk.undo()
                before = whole_of(desk)

                def bend(one):
                    one.put("a", TWICE)
                    one.attempt(lambda two: two.put("c", THREE))
                    one.undo()
                    raise error

                with self.assertRaises(error.__class__) as caught:
                    getattr(desk, call)(bend)
                self.assertIs(caught.exception, error)
                self.assertEqual(whole_of(desk), before)
                desk.redo()
                self.assertEqual(desk.names(), ("a", "b"))

    def test_what_is_no_function(self):
        desk = desk_of(a=ECHO)
        before = whole_of(desk)
        for call in (desk.attempt, desk.trial):
            with self.assertRaises(TypeError):
                call(None)
        self.assertEqual(whole_of(desk), before)

    def test_an_inner_error_that_is_caught(self):
        desk = desk_of(a=ECHO)

        def inner(one):
            one.put("b", ECHO)
            one.put("c", ECHO)
            one.undo()
            raise Raised()

        def outer(one):
            one.put("a", THREE)
            one.put("d", THREE)
            one.undo()
            before = state_of(one)
            with self.assertRaises(Raised):
                one.attempt(inner)
            self.assertEqual(state_of(one), before)
            one.redo()
            self.assertEqual(one.names(), ("a", "d"))
            with self.assertRaises(Raised):
                one.trial(inner)
            one.undo()
            one.undo()
            self.refused(NothingToUndo, {}, one.undo)
            one.redo()
            return 5

        self.assertEqual(desk.attempt(outer), 5)
        self.assertEqual(desk.names(), ("a",))
        self.assertEqual(desk.program("a"), program_of(THREE))
        desk.undo()
        self.assertEqual(desk.program("a"), program_of(ECHO))

    def test_undo_and_redo_know_their_own_edits_alone(self):
        desk = desk_of(a=ECHO, b=THREE)
        desk.undo()
        for call in (desk.attempt, desk.trial):
            self.refused(NothingToUndo, {}, call, lambda one: one.undo())
            self.refused(NothingToRedo, {}, call, lambda one: one.redo())

        def deeper(one):
            one.put("c", THREE)
            one.undo()
            one.redo()
            self.refused(NothingToUndo, {}, one.attempt, lambda two: two.undo())
            one.attempt(lambda two: two.put("d", THREE))
            self.refused(NothingToRedo, {}, one.redo)
            one.undo()
            self.assertEqual(one.names()[-1], "c")
            one.redo()
            one.undo()
            one.undo()
            self.refused(NothingToUndo, {}, one.undo)

        desk.trial(deeper)
        self.assertEqual(desk.names(), ("a",))
        desk.redo()
        self.assertEqual(desk.names(), ("a", "b"))
        desk.attempt(deeper)
        self.refused(NothingToRedo, {}, desk.redo)

    def test_an_attempt_that_does_nothing_is_an_edit(self):
        desk = desk_of(a=ECHO, b=THREE)
        desk.undo()
        self.assertIsNone(desk.attempt(lambda one: None))
        self.refused(NothingToRedo, {}, desk.redo)
        desk.undo()
        self.assertEqual(desk.names(), ("a",))
        desk.undo()
        self.assertEqual(desk.names(), ())

    def test_trials(self):
        desk = desk_of(a=ECHO, b=ECHO)
        desk.keep("a like b")
        desk.put("c", THREE)
        desk.undo()
        before = whole_of(desk)

        def bend(one):
            one.put("a", THREE)
            one.release("a like b")
            one.drop("b")
            one.trial(lambda two: two.drop("a"))
            one.attempt(lambda two: two.rename("a", "d"))
            return one.names()

        self.assertEqual(desk.trial(bend), ("d",))
        self.assertEqual(whole_of(desk), before)
        # No promise is looked at, at its end neither.
        self.assertEqual(desk.trial(lambda one: one.put("a", THREE)), None)
        self.assertEqual(desk.trial(lambda one: one.attempt(lambda two: two.put("a", THREE)) or one.broken()), (("a like b", None),))
        self.assertEqual(whole_of(desk), before)

    def test_a_trial_within_an_attempt(self):
        desk = desk_of(a=ECHO)

        def outer(one):
            one.put("b", THREE)
            told = one.trial(lambda two: (two.drop("b"), two.names())[1])
            self.assertEqual(one.names(), ("a", "b"))
            one.undo()
            one.redo()
            return told

        self.assertEqual(desk.attempt(outer), ("a",))
        self.assertEqual(desk.names(), ("a", "b"))

    def test_six_deep(self):
        desk = desk_of(a=ECHO)

        def deeper(many):
            def go(one):
                one.put(f"x{many}", THREE)
                if many:
                    one.attempt(deeper(many - 1))
                return one.names()
            return go

        self.assertEqual(desk.attempt(deeper(5)), ("a", "x5", "x4", "x3", "x2", "x1", "x0"))
        desk.undo()
        self.assertEqual(desk.names(), ("a",))


class Asked(Case):

    def test_broken_in_order(self):
        desk = desk_of(a=ECHO, b=ECHO)
        for promise in ("b like a", "a still 1", "a gives 4 in 1 of 4"):
            desk.keep(promise)

        def bend(one):
            one.put("a", GCD_TEXT.replace("of a b", "of x").replace("gcd", "a"))
            return one.broken()

        self.assertEqual(desk.broken(), ())
        fewest = fewest_still(program_of(GCD_TEXT.replace("of a b", "of x")))
        self.assertEqual(desk.trial(bend), (("b like a", None), ("a still 1", fewest), ("a gives 4 in 1 of 4", None)))

    def test_asked_changes_nothing(self):
        desk = desk_of(a=ECHO)
        before = whole_of(desk)
        self.assertEqual(desk.asked("a still 0"), (False, 1))
        self.assertEqual(desk.asked("a still 1"), (True, None))
        self.assertEqual(whole_of(desk), before)
        self.assertIs(type(desk.asked("a still 1")), tuple)


class Copies(Case):

    def test_a_copy(self):
        desk = desk_of(b=ECHO, a=THREE)
        desk.keep("b still 1")
        desk.put("c", TWICE)
        desk.undo()
        desk.change("a", "settled")
        told = desk.copied()
        self.assertEqual(state_of(told), state_of(desk))
        other = desk_of(b=desk.text("b"), a=desk.text("a"))
        other.keep("b still 1")
        self.assertEqual(whole_of(told), whole_of(other))
        told.drop("b")
        self.assertEqual(desk.names(), ("b", "a"))
        self.assertEqual(whole_of(Desk().copied()), whole_of(Desk()))


class Model:
    """What a desk should be, kept in the plainest way: the states so far, and how many of them are not taken back."""

    def __init__(self, items, promises):
        self.states = [(items, promises)]
        self.at = 0

    def edit(self, items, promises):
        self.states = self.states[:self.at + 1] + [(items, promises)]
        self.at += 1


class AtRandom(Case):

    def same(self, desk, model):
        items, promises = model.states[model.at]
        self.assertEqual(desk.names(), tuple(items))
        self.assertEqual([desk.program(name) for name in items], list(items.values()))
        self.assertEqual(desk.promises(), promises)

    def do(self, desk, model, dice, pool, checked):
        """One call of any kind, at the desk and at the model."""
        items, promises = model.states[model.at]
        way = dice.choice(("put", "put", "rename", "drop", "keep", "keep", "release", "undo", "redo", "change"))
        name = dice.choice(("a", "b", "c"))
        if way in ("undo", "redo"):
            if 0 <= model.at + (1 if way == "redo" else -1) < len(model.states):
                getattr(desk, way)()
                model.at += 1 if way == "redo" else -1
            else:
                self.refused(NothingToRedo if way == "redo" else NothingToUndo, {}, getattr(desk, way))
            return
        if way == "put":
            text = dice.choice(pool)
            call, items = (desk.put, name, text), {**items, name: program_of(text)}
        elif way == "keep":
            promise = dice.choice(("a still 1", "b still 0", "a like b", "b as a from 0 to 2 in 3", "c ready y", "a gives 3 in 2", "a with 1 most 0"))
            # Whether it is kept is told by a desk of its own.
            fresh = Desk()
            for one, program in items.items():
                fresh.put(one, program_text(program))
            try:
                kept = fresh.asked(promise)[0]
            except PointError as error:
                self.refused(error.__class__, vars(error), desk.keep, promise)
                return
            if not kept:
                self.refused(NotKept, {"promise": promise}, desk.keep, promise)
                return
            call, promises = (desk.keep, promise), promises if promise in promises else promises + (promise,)
        elif way == "release":
            promise = dice.choice(promises + ("a still 1",))
            if promise not in promises:
                self.refused(NoName, {"name": promise}, desk.release, promise)
                return
            call, promises = (desk.release, promise), tuple(one for one in promises if one != promise)
        elif name not in items:
            self.refused(NoName, {"name": name}, desk.drop, name)
            return
        elif way == "drop":
            call, items = (desk.drop, name), {one: items[one] for one in items if one != name}
            promises = tuple(one for one in promises if one.split()[0] != name and (one.split()[1] not in ("like", "as") or one.split()[2] != name))
        elif way == "change":
            call, items = (desk.change, name, "settled"), {**items, name: settled(items[name])}
        else:
            new = dice.choice(("a", "b", "c"))
            if new in items:
                self.refused(TakenName, {"name": new}, desk.rename, name, new)
                return
            call, items = (desk.rename, name, new), {new if one == name else one: items[one] for one in items}
            promises = tuple(self.renamed(promise, name, new) for promise in promises)
        error = self.first_error(items, promises) if checked else None
        if error is None:
            call[0](*call[1:])
            model.edit(items, promises)
        else:
            self.refused(error.__class__, vars(error), call[0], *call[1:])

    def renamed(self, promise, name, new):
        words = promise.split()
        places = (0, 2) if words[1] in ("like", "as") else (0,)
        return " ".join(new if at in places and word == name else word for at, word in enumerate(words))

    def first_error(self, items, promises):
        """The error that a desk with these items and promises should raise, None if all is well."""
        fresh = Desk()
        for one, program in items.items():
            fresh.put(one, program_text(program))
        for promise in promises:
            try:
                kept, witness = fresh.asked(promise)
            except PointError as error:
                return error
            if not kept:
                return NotKept(promise, witness)
        return None

    def attempted(self, desk, model, dice, pool, outermost):
        """An attempt or a trial of several calls, which may raise an error at its end."""
        way, fails = dice.choice(("attempt", "attempt", "trial")), dice.random() < 0.25
        inner = Model(*model.states[model.at])

        def go(one):
            for _ in range(dice.randint(0, 4)):
                if dice.random() < 0.25:
                    self.attempted(one, inner, dice, pool, False)
                else:
                    self.do(one, inner, dice, pool, False)
                self.same(one, inner)
            if fails:
                raise Raised()
            return inner

        if way == "trial" or fails:
            try:
                self.assertIs(getattr(desk, way)(go), inner)
                self.assertFalse(fails)
            except Raised:
                self.assertTrue(fails)
            return
        try:
            self.assertIs(desk.attempt(go), inner)
        except PointError as error:
            self.assertTrue(outermost)
            told = self.first_error(*inner.states[inner.at])
            self.assertEqual((told.__class__, vars(told)), (error.__class__, vars(error)))
            return
        if outermost:
            self.assertIsNone(self.first_error(*inner.states[inner.at]))
        model.edit(*inner.states[inner.at])

    def test_calls_of_all_kinds(self):
        pool = [ECHO, TWICE, THREE, ROUND, "program p of x\nskip\ngive x\nend", "program q\ny = 3\ngive y\nend"]
        for seed in range(60):
            dice = random.Random(seed)
            desk, model = Desk(), Model({}, ())
            for _ in range(40):
                if dice.random() < 0.2:
                    self.attempted(desk, model, dice, pool, True)
                else:
                    self.do(desk, model, dice, pool, True)
                self.same(desk, model)
                self.assertEqual(desk.broken(), ())


if __name__ == "__main__":
    unittest.main()
