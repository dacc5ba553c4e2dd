"""[61] to [68]: changes that keep the meaning."""

import itertools
import random
import unittest

from sevenpoints.changes import followed, reached, reckoned, settled, swapped, turned, without_dead
from sevenpoints.errors import BadNumber, BadPlace, TooMany, Unlike
from sevenpoints.graphs import Edge, graph_of, name_set, names_read
from sevenpoints.leasts import least_cost
from sevenpoints.meaning import deeds, pair_holds, run
from sevenpoints.programs import Program, size
from sevenpoints.tallies import counts
from sevenpoints.texts import program_of, program_text
from sevenpoints.wants import wanted
from tests.checks import Case
from tests.samples import EMPTY, FOREVER, GCD, STEPS, programs, rows_for

ALL = (reached, without_dead, followed, reckoned, turned, settled)
FIVE = (reached, without_dead, followed, reckoned, turned)
GREAT = 999999999
SKIP = ("skip",)


def program(text, inputs="a b"):
    """A program with these statements."""
    return program_of(f"program p of {inputs}\n{text}\nend" if inputs else f"program p\n{text}\nend")


def block(*statements):
    """A program of rows."""
    return Program("p", ("a", "b"), statements)


def blocks_of(statement):
    """The blocks in a statement, with the numbers of their items."""
    return {"if": (2, 3), "while": (2,), "loop": (1,)}.get(statement[0], ())


def all_blocks(rows, path=()):
    """All blocks in a block, with their paths."""
    yield path, rows
    for at, statement in enumerate(rows):
        for which, item in enumerate(blocks_of(statement)):
            yield from all_blocks(statement[item], path + (at, which))


def all_statements(rows):
    """All statements in a block, at all depths, as they stand."""
    for statement in rows:
        yield statement
        for item in blocks_of(statement):
            yield from all_statements(statement[item])


def can_leave(rows):
    """Whether a break that leaves the loop round a block can be come to in it."""
    for statement in rows:
        if statement[0] == "break":
            return True
        if statement[0] == "if" and (can_leave(statement[2]) or can_leave(statement[3])):
            return True
        if not goes_on(statement):
            return False
    return False


def goes_on(statement):
    """Whether a statement goes on."""
    if statement[0] == "if":
        return all(map(goes_on, statement[2])) or all(map(goes_on, statement[3]))
    if statement[0] == "loop":
        return can_leave(statement[1])
    return statement[0] in ("set", "skip", "while")


def with_blocks(statement, change):
    """A statement with its blocks changed."""
    items = blocks_of(statement)
    return tuple(change(item) if at in items else item for at, item in enumerate(statement))


def reached_by_hand(rows):
    """A block without what can't be come to."""
    kept = list(itertools.takewhile(goes_on, rows))
    kept += rows[len(kept):len(kept) + 1]
    return tuple(with_blocks(statement, reached_by_hand) for statement in kept)


def bent(rows, change):
    """A block with each statement that has no block replaced by those that change tells."""
    return tuple(told for statement in rows for told in (
        change(statement) if not blocks_of(statement) else (with_blocks(statement, lambda one: bent(one, change)),)))


def without_dead_once(told):
    """The program without the sets that are dead or idle now: each one is found by a mark in its value."""
    graph = graph_of(told)
    table = wanted(graph)
    marks = itertools.count()
    marked = Program(told.name, told.inputs, bent(told.block, lambda one: [
        ("set", one[1], ("times", 7, next(marks)))] if one[0] == "set" else [one]))
    edges = {edge.deed[2][2]: at for at, edge in enumerate(graph_of(marked).edges) if edge.deed[0] == "set"}
    again = itertools.count()

    def kept(one):
        if one[0] != "set":
            return [one]
        end = graph.edges[edges[next(again)]].end
        return [one] if one[1] in table[end] and one[2] != ("as", one[1]) else []

    return Program(told.name, told.inputs, bent(told.block, kept))


def without_dead_by_hand(told):
    """The program without dead and idle sets, taken out again and again."""
    while without_dead_once(told) != told:
        told = without_dead_once(told)
    return told


def known_by_hand(told):
    """For each point that can be come to the pairs (name, what it is as): the greatest table, by taking pairs out."""
    graph = graph_of(told)
    ahead = {0}
    for _ in range(graph.points):
        ahead |= {edge.end for edge in graph.edges if edge.start in ahead}
    values = {edge.deed[2][1] for edge in graph.edges if edge.deed[0] == "set" and edge.deed[2][0] == "as"} | {0}
    every = {(name, value) for name in told.names() for value in values if name != value}
    table = {point: set(every) for point in ahead}
    table[0] = {(name, 0) for name in told.names() if name not in told.inputs}
    while True:
        kept = {point: set(table[point]) for point in ahead}
        for edge in graph.edges:
            if edge.start in ahead:
                changed = name_set(edge.deed)
                behind = {pair for pair in table[edge.start] if changed not in pair}
                if changed and edge.deed[2][0] == "as" and edge.deed[2][1] != changed:
                    behind.add((changed, edge.deed[2][1]))
                kept[edge.end] &= behind
        if kept == table:
            return table
        table = kept


def row_by_hand(row, known):
    """A row with its operands replaced."""
    return row[:1] + tuple(known.get(item, item) if isinstance(item, str) else item for item in row[1:])


def followed_edges(told):
    """The edges of the graph of the followed program."""
    table = known_by_hand(told)
    edges = []
    for edge in graph_of(told).edges:
        known = dict(table.get(edge.start, ()))
        deed = edge.deed
        if deed[0] == "set":
            deed = ("set", deed[1], row_by_hand(deed[2], known))
        elif deed[0] == "test":
            deed = ("test", row_by_hand(deed[1], known), deed[2])
        elif deed[0] == "give":
            deed = row_by_hand(deed, known)
        edges.append(Edge(edge.start, deed, edge.end))
    return edges


class EachChange(Case):

    def test_same_meaning_and_no_slower(self):
        done = 0
        for told in [EMPTY, FOREVER, GCD, STEPS] + programs(100, 150):
            text = program_text(told)
            rows = rows_for(told, 100, 4)
            before = [run(told, row, 80) for row in rows]
            for change in ALL:
                other = change(told)
                self.assertEqual((other.name, other.inputs), (told.name, told.inputs))
                self.assertEqual(program_text(told), text)
                self.assertEqual(change(told), other)
                self.assertEqual(program_of(program_text(other)), other)
                for row, one in zip(rows, before):
                    two = run(other, row, 80)
                    if one is not None:
                        self.assertEqual(two.value, one.value)
                        self.assertLessEqual(two.turns, one.turns)
                        done += 1
                    elif two is not None:
                        # Then it is slower, and done all the same.
                        self.assertEqual(run(told, row, 4000).value, two.value)
        self.assertGreater(done, 2000)

    def test_as_many_turns_as_before(self):
        for told in programs(101, 100):
            for row in rows_for(told, 101, 3):
                self.assertEqual(deeds(reached(told), row, 60), deeds(told, row, 60))
                for change in (followed, turned):
                    self.assertEqual(run(change(told), row, 60), run(told, row, 60))

    def test_told_again(self):
        for told in programs(102, 150):
            for change in (reached, without_dead, reckoned, turned, settled):
                self.assertEqual(change(change(told)), change(told))


class Reached(Case):

    def test_behind_breaks_nexts_and_gives(self):
        told = program("loop\nif a is b\nbreak\na = 1\nelse\nnext\nb = 2\nend\nskip\nend\ngive a\na = 3\nloop\nend")
        self.assertEqual(reached(told), program("loop\nif a is b\nbreak\nelse\nnext\nend\nend\ngive a"))

    def test_loops(self):
        for inner, goes in (("", False), ("skip", False), ("break", True), ("give a", False), ("next\nbreak", False), ("break\nnext", True),
                            ("if a is b\nbreak\nend", True), ("if a is b\nelse\nbreak\nend", True), ("loop\nbreak\nend", False),
                            ("while a is b\nbreak\nend", False), ("if a is b\ngive a\nelse\nnext\nend\nbreak", False),
                            ("if a is b\ngive a\nend\nbreak", True), ("loop\nend\nbreak", False), ("loop\nif a is b\nbreak\nend\nend\nbreak", True),
                            ("while a is b\ngive a\nend\nbreak", True), ("if a is b\nif a is b\ngive a\nbreak\nend\nend", False),
                            ("if 1 is 0\nbreak\nend", True), ("while 0 is 0\nend\nbreak", True)):
            told = program(f"loop\n{inner}\nend\nb = 7")
            kept = [statement for statement in reached(told).block if statement == ("set", "b", ("as", 7))]
            self.assertEqual(bool(kept), goes, inner)

    def test_whiles_go_on_whatever_is_in_them(self):
        for inner in ("", "give a", "next", "break", "loop\nend"):
            told = program(f"while a is b\n{inner}\nend\nb = 7")
            self.assertEqual(reached(told), told)

    def test_ifs(self):
        told = program("if a is b\ngive a\nelse\nloop\nend\nend\nb = 7")
        self.assertEqual(reached(told), program("if a is b\ngive a\nelse\nloop\nend\nend"))
        told = program("if a is b\ngive a\nend\nb = 7")
        self.assertEqual(reached(told), told)

    def test_what_can_not_be_come_to_within_what_can(self):
        told = program("while a is b\nloop\ngive a\nbreak\nend\na = 5\nif a is b\nnext\nskip\nend\nend")
        self.assertEqual(reached(told), program("while a is b\nloop\ngive a\nend\nend"))

    def test_against_the_definition(self):
        taken = 0
        for told in programs(103, 300):
            self.assertEqual(reached(told).block, reached_by_hand(told.block))
            taken += size(told) - size(reached(told))
        self.assertGreater(taken, 100)


class Dead(Case):

    def test_dead_and_idle_sets(self):
        told = program("a = 1\na = 2\nb = b\nc = a\ngive a")
        self.assertEqual(without_dead(told), program("a = 2\ngive a"))

    def test_again_and_again(self):
        told = program("c = a\nd = c plus 1\ne = d plus c\ngive a")
        self.assertEqual(without_dead(told), program("give a"))
        # b is wanted as long as it is copied to itself behind the loop.
        told = program("b = 5\nb = b\nb = b\ngive a")
        self.assertEqual(without_dead(told), program("give a"))

    def test_blocks_that_become_empty(self):
        told = program("if a is b\nc = 1\nelse\nd = 2\nend\nloop\nc = c plus 1\nif c is 5\nbreak\nend\nd = c\nend")
        self.assertEqual(without_dead(told), program("if a is b\nc = 1\nend\nloop\nc = c plus 1\nif c is 5\nbreak\nend\nend"))
        told = program("loop\nb = a\nend")
        self.assertEqual(without_dead(told), program("loop\nend"))

    def test_a_set_in_a_loop_that_reads_itself(self):
        told = program("loop\nc = c plus 1\nend")
        self.assertEqual(without_dead(told), told)

    def test_nothing_to_take_out(self):
        for told in (EMPTY, FOREVER, GCD, STEPS):
            self.assertEqual(without_dead(told), told)

    def test_against_the_definition(self):
        taken = 0
        for told in programs(104, 300):
            self.assertEqual(without_dead(told), without_dead_by_hand(told))
            taken += size(told) - size(without_dead(told))
        self.assertGreater(taken, 300)


class Followed(Case):

    def test_copies(self):
        told = program("c = a\nd = c plus c\nif c below 3\na = c\nend\ngive c")
        self.assertEqual(followed(told), program("c = a\nd = a plus a\nif a below 3\na = a\nend\ngive c"))

    def test_each_operand_once(self):
        told = program("c = a\nd = c\ne = d\ngive e")
        self.assertEqual(followed(told), program("c = a\nd = a\ne = c\ngive d"))
        self.assertEqual(followed(followed(told)), program("c = a\nd = a\ne = a\ngive a"))

    def test_integers_and_what_sets_end(self):
        told = program("c = 5\nd = c times 3\nc = b\nb = c\ne = c plus b\ngive c")
        self.assertEqual(followed(told), program("c = 5\nd = 5 times 3\nc = b\nb = b\ne = c plus c\ngive c"))

    def test_names_that_are_0_from_the_begin_on(self):
        told = program("d = c plus a\nif c is 0\nc = 1\nend\ngive c")
        self.assertEqual(followed(told), program("d = 0 plus a\nif 0 is 0\nc = 1\nend\ngive c"))
        told = program("loop\nif c is 0\nbreak\nend\nend\ngive c")
        self.assertEqual(followed(told), program("loop\nif 0 is 0\nbreak\nend\nend\ngive 0"))
        # The begin is come to again from the loop, in which it is set.
        told = program("loop\nd = c\nc = 1\nend")
        self.assertEqual(followed(told), told)
        told = program("loop\nd = c\nc = 0\nend")
        self.assertEqual(followed(told), program("loop\nd = 0\nc = 0\nend"))

    def test_both_ways_to_a_join(self):
        told = program("if a is b\nc = 3\nelse\nc = 3\nend\ngive c")
        self.assertEqual(followed(told), program("if a is b\nc = 3\nelse\nc = 3\nend\ngive 3"))
        told = program("if a is b\nc = 3\nelse\nc = 4\nend\ngive c")
        self.assertEqual(followed(told), told)
        told = program("if a is b\nc = a\nelse\nc = a\na = 1\nend\ngive c")
        self.assertEqual(followed(told), told)
        # Whatever the conditions are.
        told = program("if 0 is 1\nc = 3\nend\ngive c")
        self.assertEqual(followed(told), told)

    def test_points_that_nothing_comes_to(self):
        told = program("c = a\ngive c\nc = b\ngive c")
        self.assertEqual(followed(told), program("c = a\ngive a\nc = b\ngive c"))
        told = program("loop\nend\nc = 5\ngive d")
        self.assertEqual(followed(told), told)
        # An edge from such a point takes nothing away from the point that it leads to.
        told = program("c = 3\nloop\nif a is 0\nbreak\nend\nnext\nc = 4\nend\ngive c")
        self.assertEqual(followed(told), program("c = 3\nloop\nif a is 0\nbreak\nend\nnext\nc = 4\nend\ngive 3"))

    def test_a_name_set_to_itself(self):
        told = program("c = a\nc = c\ngive c")
        self.assertEqual(followed(told), program("c = a\nc = a\ngive c"))
        told = program("c = 0\nc = c plus 0\ngive c")
        self.assertEqual(followed(told), program("c = 0\nc = 0 plus 0\ngive c"))
        told = program("a = a\nd = a\ngive d")
        self.assertEqual(followed(told), program("a = a\nd = a\ngive a"))

    def test_conditions_of_many_parts(self):
        told = program("c = a\nif not c below d and ( d is b or not not b most c )\nwhile c is d or c is b\nend\nend")
        self.assertEqual(followed(told), program("c = a\nif not a below 0 and ( 0 is b or not not b most a )\nwhile a is 0 or a is b\nend\nend"))

    def test_against_the_definition(self):
        changed = 0
        for told in programs(105, 300):
            other = followed(told)
            self.assertEqual(list(graph_of(other).edges), followed_edges(told))
            changed += other != told
        self.assertGreater(changed, 80)


class Reckoned(Case):

    def test_values(self):
        for value, told in (
                (("plus", 2, 3), ("as", 5)), (("less", 2, 3), ("as", -1)), (("times", -2, 3), ("as", -6)), (("times", 999, 999), ("as", 998001)),
                (("plus", GREAT, 0), ("as", GREAT)), (("plus", GREAT, 1), ("plus", GREAT, 1)), (("plus", -GREAT, -1), ("plus", -GREAT, -1)),
                (("plus", GREAT, -1), ("as", GREAT - 1)), (("less", -GREAT, 0), ("as", -GREAT)), (("less", 0, GREAT), ("as", -GREAT)),
                (("less", -GREAT, 1), ("less", -GREAT, 1)), (("less", GREAT, -1), ("less", GREAT, -1)), (("times", GREAT, 2), ("times", GREAT, 2)),
                (("times", GREAT, -1), ("as", -GREAT)), (("times", -333333333, 3), ("as", -GREAT)), (("times", -333333334, 3), ("times", -333333334, 3)),
                (("plus", "a", 0), ("as", "a")), (("plus", 0, "a"), ("as", "a")), (("less", "a", 0), ("as", "a")), (("times", "a", 1), ("as", "a")),
                (("times", "a", 0), ("as", 0)), (("less", 0, "a"), ("less", 0, "a")), (("less", "a", "a"), ("less", "a", "a")),
                (("plus", "a", 1), ("plus", "a", 1)), (("plus", 1, "a"), ("plus", 1, "a")), (("times", "a", -1), ("times", "a", -1)),
                (("plus", "a", "b"), ("plus", "a", "b")), (("as", "a"), ("as", "a")), (("as", 7), ("as", 7)), (("less", "a", 1), ("less", "a", 1)),
                (("times", 0, 0), ("as", 0)), (("times", 7, 1), ("as", 7))):
            self.assertEqual(reckoned(block(("set", "c", value))), block(("set", "c", told)))

    def decided(self, condition, holds):
        one, other = ("set", "c", ("as", 1)), ("set", "d", ("as", 2))
        told = reckoned(block(("if", condition, (one, one), (other,)), ("while", condition, (one,))))
        self.assertEqual(told, block(one, one, ("loop", (one,))) if holds else block(other))

    def left(self, condition, told):
        one, other = ("set", "c", ("as", 1)), ("set", "d", ("as", 2))
        self.assertEqual(reckoned(block(("if", condition, (one,), (other,)), ("while", condition, (one,)))),
                         block(("if", told, (one,), (other,)), ("while", told, (one,))))

    def test_conditions_that_are_decided(self):
        yes, no, open_one = ("is", 3, 3), ("below", 3, 3), ("is", "a", "b")
        for condition, holds in (
                (yes, True), (no, False), (("below", 2, 3), True), (("below", 4, 3), False), (("most", 3, 3), True), (("most", 4, 3), False),
                (("is", 3, 4), False), (("is", "a", "a"), True), (("most", "a", "a"), True), (("below", "a", "a"), False),
                (("not", yes), False), (("not", no), True), (("not", ("not", yes)), True), (("and", yes, yes), True), (("and", yes, no), False),
                (("and", no, open_one), False), (("and", open_one, no), False), (("or", yes, open_one), True), (("or", open_one, yes), True),
                (("or", no, no), False), (("or", no, yes), True), (("and", ("or", open_one, yes), ("not", no)), True),
                (("not", ("and", open_one, ("is", 0, 1))), True), (("or", ("and", open_one, no), ("not", ("or", yes, open_one))), False)):
            self.decided(condition, holds)

    def test_conditions_that_are_not(self):
        yes, no, one, other = ("is", 3, 3), ("below", 3, 3), ("is", "a", "b"), ("below", "a", 3)
        for condition, told in (
                (one, one), (other, other), (("not", one), ("not", one)), (("and", one, other), ("and", one, other)), (("and", yes, one), one),
                (("and", one, yes), one), (("or", no, one), one), (("or", one, no), one), (("not", ("and", yes, one)), ("not", one)),
                (("not", ("not", one)), ("not", ("not", one))), (("and", ("or", one, no), ("and", yes, other)), ("and", one, other)),
                (("or", no, ("not", ("or", no, ("and", other, yes)))), ("not", other)), (("is", "a", 0), ("is", "a", 0)),
                (("and", one, one), ("and", one, one)), (("or", one, ("not", one)), ("or", one, ("not", one)))):
            self.left(condition, told)

    def test_ifs_go_into_the_block_round_them(self):
        told = program("a = 1\nif 1 is 1\nb = 2\nif a is a\nb = 3\nskip\nend\nb = 4\nelse\na = 9\nend\na = 5\nif 0 is 1\na = 6\nend\nskip")
        self.assertEqual(reckoned(told), program("a = 1\nb = 2\nb = 3\nskip\nb = 4\na = 5\nskip"))
        told = program("loop\nif 1 is 1\nbreak\nelse\nnext\nend\nend\nif a is b\nif 0 is 0\nelse\nskip\nend\nend")
        self.assertEqual(reckoned(told), program("loop\nbreak\nend\nif a is b\nend"))

    def test_whiles(self):
        told = program("while 1 is 1\na = a plus 0\nif a is 5\nbreak\nend\nnext\nend\nwhile 1 is 0\na = 3\nend\nwhile not 1 below 2\nend")
        self.assertEqual(reckoned(told), program("loop\na = a\nif a is 5\nbreak\nend\nnext\nend"))
        told = program("while a is b\nwhile 0 is 1\nend\nend")
        self.assertEqual(reckoned(told), program("while a is b\nend"))

    def test_random_programs(self):
        changed = 0
        for told in programs(106, 200):
            other = reckoned(told)
            changed += other != told
            for statement in all_statements(other.block):
                if statement[0] in ("if", "while"):
                    self.assertNotIn(self.known(statement[1]), (True, False))
        self.assertGreater(changed, 100)

    def known(self, condition):
        """Whether a condition is decided, by the definition."""
        if condition[0] == "not":
            told = self.known(condition[1])
            return None if told is None else not told
        if condition[0] in ("and", "or"):
            told = {self.known(condition[1]), self.known(condition[2])}
            deciding = condition[0] == "or"
            return deciding if deciding in told else None if None in told else not deciding
        if condition[1] == condition[2]:
            return condition[0] != "below"
        return None if isinstance(condition[1], str) or isinstance(condition[2], str) else pair_holds(condition, {})


class Turned(Case):

    def test_rules(self):
        one, other, third = ("is", "a", "b"), ("below", "a", 3), ("most", 4, "b")
        for condition, told in (
                (one, one), (("not", one), ("not", one)), (("not", ("not", one)), one), (("not", ("not", ("not", one))), ("not", one)),
                (("not", other), ("most", 3, "a")), (("not", third), ("below", "b", 4)), (("not", ("not", other)), other),
                (("not", ("and", one, other)), ("or", ("not", one), ("most", 3, "a"))),
                (("not", ("or", one, third)), ("and", ("not", one), ("below", "b", 4))),
                (("not", ("and", ("not", one), ("or", other, ("not", third)))), ("or", one, ("and", ("most", 3, "a"), third))),
                (("and", ("not", ("not", one)), ("or", ("not", other), third)), ("and", one, ("or", ("most", 3, "a"), third)))):
            for made in (lambda c: ("if", c, (SKIP,), ()), lambda c: ("while", c, ()), lambda c: ("loop", (("while", c, ()),)),
                         lambda c: ("if", one, (), (("if", c, (), (("while", c, ()),)),))):
                self.assertEqual(turned(block(made(condition))), block(made(told)))

    def test_the_most_parts(self):
        condition = ("is", "a", 0)
        for number in range(1, 6):
            condition = ("and", condition, ("is", "a", number))
        for _ in range(9):
            condition = ("not", condition)
        told = turned(block(("while", condition, ())))
        self.assertEqual(sum(1 for word in program_text(told).split() if word == "not"), 6)

    def test_random_programs(self):
        for told in programs(107, 200):
            text = program_text(turned(told)).split()
            # Behind each not a compared pair with is comes at once.
            self.assertTrue(all(text[at + 2] == "is" for at, word in enumerate(text) if word == "not"))


class Settled(Case):

    def test_by_hand(self):
        told = program("c = 3\nwhile not not c below 3\nd = 1\nend\nif not c is 3\ngive b\nend\nd = c times 2\ngive d\na = 5")
        self.assertEqual(settled(told), program("give 6"))
        told = program("c = a\nd = c\ne = d\nf = e plus 0\ngive f")
        self.assertEqual(settled(told), program("give a"))

    def test_the_five_leave_it_as_it_is(self):
        for told in [EMPTY, FOREVER, GCD, STEPS] + programs(108, 150):
            other = settled(told)
            for change in FIVE:
                self.assertEqual(change(other), other)
            self.assertEqual(settled(other), other)

    def test_the_order_of_the_five(self):
        for told in programs(109, 100):
            other = told
            while True:
                ahead = other
                for change in (turned, reckoned, followed, without_dead, reached):
                    other = change(other)
                if ahead == other:
                    break
            self.assertEqual(settled(told), other)


class Swapped(Case):

    def test_at_all_depths(self):
        text = "if a is b\nloop\nc = 1\nd = 2\nbreak\nend\nelse\nwhile a is b\ne = 3\nskip\nc = a\nd = b\nend\nend\nd = 4\nc = 5"
        told = program(text)
        for path, index, other in (
                ((), 1, text.replace("d = 4\nc = 5", "c = 5\nd = 4")), ((0, 0, 0, 0), 0, text.replace("c = 1\nd = 2", "d = 2\nc = 1")),
                ((0, 1, 0, 0), 2, text.replace("c = a\nd = b", "d = b\nc = a"))):
            self.assertEqual(swapped(told, path, index), program(other))
            self.assertEqual(swapped(told, list(path), index), program(other))
        self.assertEqual(told, program(text))

    def test_all_blocks_of_programs(self):
        done, refused = 0, 0
        for told in programs(110, 120):
            for path, rows in all_blocks(told.block):
                self.refused(BadNumber, {"what": "index", "value": max(len(rows) - 1, 0)}, swapped, told, path, max(len(rows) - 1, 0))
                for index, (one, other) in enumerate(zip(rows, rows[1:])):
                    if one[0] == other[0] == "set" and one[1] != other[1] and one[1] not in names_read(other) and other[1] not in names_read(one):
                        new = swapped(told, path, index)
                        self.assertEqual(dict(all_blocks(new.block))[path], rows[:index] + (other, one) + rows[index + 2:])
                        self.assertEqual(swapped(new, path, index), told)
                        for row in rows_for(told, 110, 2):
                            self.assertEqual(run(new, row, 60), run(told, row, 60))
                        done += 1
                    else:
                        self.refused(Unlike, {"what": "sets"}, swapped, told, path, index)
                        refused += 1
        self.assertGreater(done, 50)
        self.assertGreater(refused, 100)

    def test_errors_in_their_order(self):
        told = program("c = a\nif a is b\nd = c\nskip\nend\nloop\nend\nwhile a is b\nend\nd = 1\nd = 2\ne = d\nc = b\nb = 1")
        for path in (None, 3, "", "ab", {}, (0,), (1,), (0, 0), (1, 2), (2, 1), (3, 1), (9, 0), (-1, 0), (1, -1), (True, 0), (1, False), (1, 0, 0),
                     (1, 0, 0, 0), (1, 0, 1, 0), (1, 0, 2, 0), ("1", 0), (1, None), (1.0, 0), ((1, 0),), (8, 0), (1, 0, -1, 0), (None, None)):
            self.refused_with(BadPlace, "value", path, swapped, told, path, None)
        for path, index in (((), 8), ((), 9), ((), -1), ((), None), ((), True), ((), "0"), ((), 0.0), ((1, 1), 0), ((1, 0), 1), ((2, 0), 0), ((3, 0), 0),
                            ((), (0,)), ((), 10 ** 30)):
            self.refused(BadNumber, {"what": "index", "value": index}, swapped, told, path, index)
        for path, index in (((), 0), ((), 1), ((), 2), ((), 3), ((), 4), ((), 5), ((), 7), ((1, 0), 0)):
            self.refused(Unlike, {"what": "sets"}, swapped, told, path, index)
        self.assertNotEqual(swapped(told, (), 6), told)


class Costs(Case):

    def prices_of(self, told, rows):
        """How often rows of inputs take each edge; None if a run is not done."""
        if any(run(told, row, 60) is None for row in rows):
            return None
        return counts(told, rows, 60)

    def test_least_costs_of_changed_programs(self):
        asked = 0
        for told in programs(111, 60):
            rows = rows_for(told, 111, 3)
            prices = self.prices_of(told, rows)
            if prices is None:
                continue
            idle = any(statement[0] == "set" and statement[2] == ("as", statement[1]) for statement in all_statements(told.block))
            for registers in range(3):
                try:
                    least = least_cost(told, registers, prices)
                    others = [least_cost(change(told), registers, self.prices_of(change(told), rows))
                              for change in (reckoned, without_dead, turned, reached)]
                except TooMany:
                    continue
                self.assertLessEqual(others[0], least)
                if not idle:
                    self.assertLessEqual(others[1], least)
                self.assertEqual(others[2:], [least, least])
                asked += 1
        self.assertGreater(asked, 50)


class Ways(Case):

    def test_followed_along_all_short_ways(self):
        dice = random.Random(112)
        for told in programs(112, 60):
            graph = graph_of(told)
            table = known_by_hand(told)
            for _ in range(30):
                point, held = 0, {name: 0 for name in told.names() if name not in told.inputs}
                for _ in range(15):
                    self.assertTrue(all(held.get(name) == other for name, other in table[point]))
                    ahead = [edge for edge in graph.edges if edge.start == point]
                    if not ahead:
                        break
                    edge = dice.choice(ahead)
                    changed = name_set(edge.deed)
                    held = {name: other for name, other in held.items() if changed not in (name, other)}
                    if changed and edge.deed[2][0] == "as":
                        held[changed] = edge.deed[2][1]
                    point = edge.end


if __name__ == "__main__":
    unittest.main()
