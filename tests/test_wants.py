"""[41] to [45]: names that are wanted."""

import random
import unittest

from sevenpoints.errors import BadName, BadPoint, BadRow
from sevenpoints.graphs import Edge, Graph, graph_of, name_set, names_read, walk_of, walked_from
from sevenpoints.programs import Program
from sevenpoints.texts import program_of
from sevenpoints.wants import crowd, is_closed, is_way, rounds_of, together, wanted, way_to
from tests.checks import Case
from tests.samples import EMPTY, FOREVER, GCD, STEPS, programs

# A loop that never ends, and behind it a part that nothing comes to.
ENDLESS = program_of("""program endless of a b
c = a
loop
  c = c plus b
end
d = a
while d below e
  d = d plus f
end
give c
end
""")

OTHERS = (None, 0, True, "", "ab", b"", 1.5, {}, {1}, [], (), ((),), [()], ("a",), object(), wanted, GCD)


def shown_by(graph, point, name, longest):
    """All ways of at most so many edges that show that a name is wanted, the shortest ones first, by their indices."""
    found = []
    begun = [()]
    for _ in range(longest):
        more = []
        for way in begun:
            end = graph.edges[way[-1]].end if way else point
            more.extend(way + (at,) for at, edge in enumerate(graph.edges) if edge.start == end)
        found.extend(sorted(way for way in more if name in names_read(graph.edges[way[-1]].deed)))
        begun = [way for way in more if name_set(graph.edges[way[-1]].deed) != name]
        if len(begun) > 3000:
            break
    return found


class Wanted(Case):

    def test_gcd(self):
        told = wanted(graph_of(GCD))
        self.assertEqual(told, (("a", "b"), (), (), ("a",), ("a", "b"), ("b", "t"), ("b", "t"), ("b", "t"), ("a", "t")))

    def test_never_ending_loops_and_parts_that_nothing_comes_to(self):
        graph = graph_of(ENDLESS)
        self.assertEqual([edge.start for edge in graph.edges], [0, 3, 4, 5, 5, 7, 6, 2])
        self.assertEqual(wanted(graph), (("a", "b"), (), (), ("b", "c"), ("a", "c", "e", "f"), ("c", "d", "e", "f"),
                                         ("c",), ("c", "d", "e", "f")))
        self.assertEqual(wanted(graph_of(FOREVER)), ((),) * 3)
        self.assertEqual(wanted(graph_of(EMPTY)), ((),) * 3)

    def test_an_edge_may_read_what_it_sets(self):
        self.assertEqual(wanted(graph_of(program_of("program p\na = a plus 1\nend"))), (("a",), (), ()))
        self.assertEqual(wanted(graph_of(program_of("program p\na = b\na = a\nend")))[0], ("b",))

    def test_rows_are_by_alphabet(self):
        block = (("if", ("is", "z", "b"), (), ()), ("set", "a", ("plus", "x1", "x")), ("give", "a"))
        graph = graph_of(Program("p", (), block))
        self.assertEqual(wanted(graph)[0], ("b", "x", "x1", "z"))
        self.assertEqual(wanted(graph)[3], ("x", "x1"))

    def test_nothing_is_wanted_at_the_end(self):
        for program in [GCD, STEPS, ENDLESS] + programs(71, 60):
            told = wanted(graph_of(program))
            self.assertEqual(told[1], ())
            for row in told:
                self.assertEqual(row, tuple(sorted(set(row))))

    def test_just_what_a_way_shows(self):
        for program in [GCD, STEPS, ENDLESS, EMPTY, FOREVER] + programs(72, 60):
            graph = graph_of(program)
            if graph.points > 16:
                continue
            for point, row in enumerate(wanted(graph)):
                for name in program.names():
                    ways = shown_by(graph, point, name, graph.points)
                    self.assertEqual(name in row, bool(ways))
                    self.assertEqual(way_to(graph, point, name), ways[0] if ways else None)

    def test_crowd(self):
        self.assertEqual([crowd(graph_of(program)) for program in (GCD, STEPS, ENDLESS, EMPTY, FOREVER)], [2, 2, 4, 0, 0])
        for program in programs(73, 40):
            graph = graph_of(program)
            self.assertEqual(crowd(graph), max(len(row) for row in wanted(graph)))

    def test_together(self):
        self.assertEqual(together(graph_of(GCD)), (("a", "b"), ("a", "t"), ("b", "t")))
        self.assertEqual(together(graph_of(EMPTY)), ())
        self.assertEqual(together(graph_of(ENDLESS)), (("a", "b"), ("a", "c"), ("a", "e"), ("a", "f"), ("b", "c"), ("c", "d"),
                                                      ("c", "e"), ("c", "f"), ("d", "e"), ("d", "f"), ("e", "f")))
        for program in programs(74, 40):
            graph = graph_of(program)
            pairs = {(one, other) for row in wanted(graph) for one in row for other in row if one < other}
            self.assertEqual(together(graph), tuple(sorted(pairs)))


class Ways(Case):

    def test_shortest_ways(self):
        graph = graph_of(GCD)
        self.assertEqual([way_to(graph, point, "a") for point in range(9)],
                         [(0, 8), None, None, (8,), (2,), None, None, None, (7, 0, 8)])
        self.assertEqual(way_to(graph, 0, "b"), (0,))
        self.assertEqual(way_to(graph, 5, "t"), (3,))
        self.assertIsNone(way_to(graph, 0, "t"))
        self.assertIsNone(way_to(graph, 0, ""))
        self.assertIsNone(way_to(graph, 0, "while"))

    def test_the_least_indices_of_all_shortest(self):
        skip, give = ("skip",), ("give", "x")
        graph = Graph(8, [Edge(4, give, 1), Edge(3, skip, 5), Edge(0, skip, 6), Edge(0, ("set", "x", ("as", 1)), 4),
                          Edge(0, skip, 4), Edge(5, give, 1), Edge(6, skip, 3), Edge(6, skip, 4), Edge(7, skip, 6),
                          Edge(7, skip, 3), Edge(4, give, 1), Edge(7, skip, 3)])
        self.assertEqual([way_to(graph, point, "x") for point in range(8)],
                         [(4, 0), None, None, (1, 5), (0,), (5,), (7, 0), (8, 7, 0)])

    def test_all_ways_are_let_by(self):
        graph = graph_of(GCD)
        for way in ((0,), (1,), (1, 2, 3), (1, 2, 3, 5, 3, 5, 4, 6)):
            self.assertIs(is_way(graph, 0, "b", way), True)
        for way in ((0, 8), (1, 2), (1, 2, 4, 6, 7, 0), (2,), (0, 2, 3), (0, 1), (8, 0)):
            self.assertIs(is_way(graph, 0, "b", way), False)
        self.assertIs(is_way(graph, 5, "b", (3, 5, 3, 5)), True)
        self.assertIs(is_way(graph, 5, "t", (3, 5)), True)
        self.assertIs(is_way(graph, 5, "t", (3, 5, 3)), False)
        # The last edge may set the name, too.
        add = Graph(3, [Edge(0, ("set", "x", ("plus", "x", 1)), 0), Edge(0, ("give", "x"), 1)])
        self.assertIs(is_way(add, 0, "x", (0,)), True)
        self.assertIs(is_way(add, 0, "x", (0, 0)), False)
        skip = Graph(2, [Edge(0, ("skip",), 0), Edge(0, ("give", "x"), 1)])
        self.assertIs(is_way(skip, 0, "x", (0,) * 500 + (1,)), True)
        self.assertIs(is_way(skip, 0, "x", (0,) * 500), False)
        self.assertIs(is_way(skip, 1, "x", (1,)), False)

    def test_ways_of_any_length_and_with_one_index_changed(self):
        checked = 0
        for program in [GCD, STEPS, ENDLESS] + programs(75, 40):
            graph = graph_of(program)
            if graph.points > 14:
                continue
            for point in range(graph.points):
                for name in program.names():
                    ways = shown_by(graph, point, name, 6)
                    for way in ways[:20]:
                        self.assertIs(is_way(graph, point, name, way), True)
                        self.assertIs(is_way(graph, point, name, list(way)), False)
                        for at in range(len(way)):
                            for index in range(-1, len(graph.edges) + 1):
                                changed = way[:at] + (index,) + way[at + 1:]
                                self.assertIs(is_way(graph, point, name, changed), changed in ways)
                                checked += 1
        self.assertGreater(checked, 1000)

    def test_other_values(self):
        graph = graph_of(GCD)
        for told in OTHERS + ((True,), (0.0,), ("0",), (None,), ((0,),), (0, 2, 3, 5, 99), (-1,), (10 ** 30,), [0]):
            self.assertIs(is_way(graph, 0, "b", told), False)
        self.assertIs(is_way(graph, 0, "b", (False,)), False)
        self.assertIs(is_way(graph, 0, "b", (0,)), True)

    def test_errors_in_their_order(self):
        graph = graph_of(GCD)
        for call, more in ((way_to, ()), (is_way, ((0,),))):
            for point in (-1, graph.points, True, None, "0", 0.0, (0,)):
                self.refused_with(BadPoint, "value", point, call, graph, point, 7, *more)
            for name in (None, 0, True, ("a",), ["a"], b"a"):
                self.refused_with(BadName, "name", name, call, graph, 1, name, *more)


class Closed(Case):

    def test_wanted_names_and_more(self):
        dice = random.Random(76)
        for program in [GCD, STEPS, ENDLESS, EMPTY, FOREVER] + programs(76, 60):
            graph = graph_of(program)
            told = wanted(graph)
            self.assertIs(is_closed(graph, told), True)
            self.assertIs(is_closed(graph, list(told)), False)
            every = tuple(sorted(program.names() + ("zz",)))
            self.assertIs(is_closed(graph, (every,) * graph.points), True)
            for point, row in enumerate(told):
                for name in row:
                    less = tuple(one for one in row if one != name)
                    self.assertIs(is_closed(graph, told[:point] + (less,) + told[point + 1:]), False)
            for _ in range(5):
                rows = tuple(tuple(sorted(set(row + tuple(dice.sample(every, 1))))) for row in told)
                if is_closed(graph, rows):
                    self.assertTrue(all(set(row) <= set(more) for row, more in zip(told, rows)))
                self.assertEqual(is_closed(graph, rows), all(
                    set(names_read(edge.deed)) | set(rows[edge.end]) - {name_set(edge.deed)} <= set(rows[edge.start])
                    for edge in graph.edges))

    def test_a_greater_table_that_hangs_together(self):
        graph = graph_of(program_of("program p\nx = 1\ngive x\nend"))
        self.assertEqual(wanted(graph), ((), (), (), ("x",)))
        self.assertIs(is_closed(graph, (("x",), ("",), (), ("x",))), False)
        self.assertIs(is_closed(graph, (("x",), (), ("y",), ("x",))), True)
        self.assertIs(is_closed(graph, (("x", "y"), ("y",), ("y",), ("x", "y"))), True)
        self.assertIs(is_closed(graph, (("x", "y"), ("y",), (), ("x", "y"))), False)
        self.assertIs(is_closed(graph, ((), ("x",), ("x",), ("x",))), True)
        self.assertIs(is_closed(graph, ((), ("y",), (), ("x", "y"))), False)

    def test_rows_of_another_form(self):
        graph = graph_of(GCD)
        told = wanted(graph)
        for row in (("b", "a"), ("a", "b", "b"), ["a", "b"], "ab", ("a", "b", 1), ("a", "b", None), None, {"a": 1, "b": 2}, 5,
                    ("a", ("b",)), ("a", b"b")):
            self.assertIs(is_closed(graph, (row,) + told[1:]), False)
        for other in OTHERS + (told[:-1], told + ((),), told + (None,), dict(enumerate(told)), (("a", "b", "t"),) * 8):
            self.assertIs(is_closed(graph, other), False)
        self.assertIs(is_closed(graph, (("a", "b", "t"),) * 9), True)


def rounds_by_hand(graph, order):
    """The tables behind the rounds, gone through name by name."""
    rows = [set() for _ in range(graph.points)]
    tables = []
    while True:
        ahead = [set(row) for row in rows]
        for at in order:
            edge = graph.edges[at]
            rows[edge.start] |= set(names_read(edge.deed))
            rows[edge.start] |= rows[edge.end] - {name_set(edge.deed)}
        if rows == ahead:
            return tuple(tables)
        tables.append(tuple(tuple(sorted(row)) for row in rows))


class Rounds(Case):

    def test_orders(self):
        graph = graph_of(program_of("program p\nskip\nskip\ngive x\nend"))
        self.assertEqual([edge.start for edge in graph.edges], [0, 3, 4, 2])
        end = (("x",), (), (), ("x",), ("x",))
        self.assertEqual(rounds_of(graph, (3, 2, 1, 0)), (end,))
        self.assertEqual(rounds_of(graph, [0, 1, 2, 3]), (((), (), (), (), ("x",)), ((), (), (), ("x",), ("x",)), end))
        self.assertEqual(rounds_of(graph, (1, 2, 0, 3)), (((), (), (), (), ("x",)), end))
        self.assertEqual(rounds_of(graph, (0, 2, 1, 3)), (((), (), (), ("x",), ("x",)), end))

    def test_no_edge_reads_a_name(self):
        for program in (EMPTY, FOREVER, program_of("program p\na = 1\ngive 2\nend")):
            graph = graph_of(program)
            self.assertEqual(rounds_of(graph, tuple(range(len(graph.edges)))), ())

    def test_the_last_table_is_what_is_wanted(self):
        dice = random.Random(77)
        for program in [GCD, STEPS, ENDLESS] + programs(77, 60):
            graph = graph_of(program)
            order = list(range(len(graph.edges)))
            for _ in range(4):
                tables = rounds_of(graph, order)
                self.assertEqual(tables, rounds_by_hand(graph, order))
                self.assertLessEqual(len(tables), graph.points)
                read = any(names_read(edge.deed) for edge in graph.edges)
                self.assertEqual(tables[-1:], (wanted(graph),) if read else ())
                dice.shuffle(order)

    def test_what_is_no_order(self):
        graph = graph_of(EMPTY)
        self.assertEqual(rounds_of(graph, (1, 0)), ())
        for order in (None, 3, "01", (), (0,), (0, 0), (0, 1, 1), (0, 2), (1, 2), (-1, 0), (False, True), (0, True), (0, "1"),
                      (0, None), (0, 1.0), {0: 1, 1: 0}, [[0, 1]], (0, 1, 2), (0, [1])):
            self.refused_with(BadRow, "value", order, rounds_of, graph, order)


class WhatIsNotWanted(unittest.TestCase):

    def walks_alike(self, graph, names, table, dice):
        """Walks from all points with unlike values of the names that a table has not there."""
        for point in range(graph.points):
            if point == 1:
                continue
            one = {name: dice.choice((-1, 0, 1, 2, 7)) for name in names}
            other = {name: worth if name in table[point] else dice.choice((-3, 0, 5)) for name, worth in one.items()}
            for turns in (1, 9, 30):
                self.assertEqual(walk_of(graph, point, one, turns), walk_of(graph, point, other, turns))
                self.assertEqual(walked_from(graph, point, tuple(one.items()), turns),
                                 walked_from(graph, point, tuple(other.items()), turns))

    def test_walks_with_other_values(self):
        dice = random.Random(78)
        for program in [GCD, STEPS] + programs(78, 50):
            graph = graph_of(program)
            told = wanted(graph)
            self.walks_alike(graph, program.names(), told, dice)
            more = tuple(tuple(sorted(set(row) | {"a"})) for row in told)
            if is_closed(graph, more):
                self.walks_alike(graph, program.names(), more, dice)

    def test_what_is_wanted_matters_along_its_way(self):
        graph = graph_of(GCD)
        self.assertNotEqual(walk_of(graph, 3, {"a": 1}, 9), walk_of(graph, 3, {"a": 2}, 9))


if __name__ == "__main__":
    unittest.main()
