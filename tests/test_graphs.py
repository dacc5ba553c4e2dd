"""[13] to [18]: graphs of programs, and walks along them."""

import unittest

from sevenpoints.errors import BadNumber, BadPoint
from sevenpoints.graphs import Edge, Graph, graph_of, name_set, names_read, walked, walked_from, ways_from, ways_to
from sevenpoints.meaning import Done, deeds, run, values_after
from sevenpoints.programs import Program
from sevenpoints.texts import program_of
from tests.checks import Case
from tests.samples import EMPTY, GCD, STEPS, programs, rows_for

SKIP = ("skip",)
A, B, C = ("is", "a", 1), ("below", "b", 2), ("most", 3, "c")


def tests_at(start, pair, yes, no):
    """The two edges of a compared pair."""
    return [(start, ("test", pair, True), yes), (start, ("test", pair, False), no)]


class Objects(unittest.TestCase):

    def test_equality_of_edges(self):
        one = Edge(0, SKIP, 2)
        self.assertEqual(one, Edge(0, ["skip"], 2))
        self.assertFalse(one != Edge(0, SKIP, 2))
        for other in (Edge(1, SKIP, 2), Edge(0, ("give", 0), 2), Edge(0, SKIP, 1), Edge(2, SKIP, 0), None, (0, SKIP, 2)):
            self.assertNotEqual(one, other)
            self.assertFalse(one == other)

    def test_equality_of_graphs(self):
        one = Graph(3, (Edge(0, SKIP, 2), Edge(2, ("give", 0), 1)))
        self.assertEqual(one, Graph(3, [Edge(0, SKIP, 2), Edge(2, ["give", 0], 1)]))
        self.assertFalse(one != graph_of(EMPTY))
        for other in (Graph(4, one.edges), Graph(3, one.edges[::-1]), Graph(3, one.edges[:1]), Graph(3, ()), None, 3):
            self.assertNotEqual(one, other)
            self.assertFalse(one == other)

    def test_what_is_given_is_kept_lists_as_tuples(self):
        deed = ["test", ["is", "a", 1], True]
        edge = Edge(0, deed, [1, [2]])
        self.assertEqual((edge.start, edge.deed, edge.end), (0, ("test", A, True), (1, (2,))))
        self.assertEqual(deed, ["test", ["is", "a", 1], True])
        edges = [edge]
        graph = Graph("x", edges)
        edges.append(edge)
        self.assertEqual(graph.points, "x")
        self.assertEqual(graph.edges, (edge,))
        self.assertIs(graph.edges[0], edge)


class Made(unittest.TestCase):
    """Points and edges in the order of the document."""

    def makes(self, block, points, edges):
        graph = graph_of(Program("p", (), block))
        self.assertIs(graph.edges.__class__, tuple)
        self.assertEqual([(edge.start, edge.deed, edge.end) for edge in graph.edges], edges + [(2, ("give", 0), 1)])
        self.assertEqual(graph.points, points)
        self.assertEqual(graph, Graph(points, [Edge(*edge) for edge in edges] + [Edge(2, ("give", 0), 1)]))

    def test_no_statement_and_one(self):
        self.makes((), 3, [(0, SKIP, 2)])
        self.makes((SKIP,), 3, [(0, SKIP, 2)])
        self.makes((("set", "x", ("times", "x", 3)),), 3, [(0, ("set", "x", ("times", "x", 3)), 2)])
        self.makes((("give", "x"),), 3, [(0, ("give", "x"), 1)])

    def test_several_statements(self):
        one, two, three = ("set", "x", ("as", 1)), ("give", "x"), ("set", "y", ("plus", "x", "y"))
        self.makes((one, two), 4, [(0, one, 3), (3, two, 1)])
        self.makes((one, two, three, SKIP), 6, [(0, one, 3), (3, two, 1), (4, three, 5), (5, SKIP, 2)])

    def test_ifs(self):
        self.makes((("if", A, (), ()),), 5, tests_at(0, A, 3, 4) + [(3, SKIP, 2), (4, SKIP, 2)])
        self.makes((("if", A, (("give", 1),), (SKIP, SKIP)), ("give", 2)), 7,
                   tests_at(0, A, 4, 5) + [(4, ("give", 1), 1), (5, SKIP, 6), (6, SKIP, 3), (3, ("give", 2), 1)])

    def test_whiles(self):
        self.makes((("while", A, ()),), 4, tests_at(0, A, 3, 2) + [(3, SKIP, 0)])
        self.makes((SKIP, ("while", A, (("break",), ("next",), SKIP)), SKIP), 8,
                   [(0, SKIP, 3)] + tests_at(3, A, 5, 4) + [(5, SKIP, 4), (6, SKIP, 3), (7, SKIP, 3), (4, SKIP, 2)])

    def test_loops(self):
        self.makes((("loop", ()),), 3, [(0, SKIP, 0)])
        self.makes((("loop", (("break",),)),), 3, [(0, SKIP, 2)])
        self.makes((("loop", (("next",), SKIP)),), 4, [(0, SKIP, 0), (3, SKIP, 0)])
        self.makes((("loop", (("loop", (("break",),)), ("break",))),), 4, [(0, SKIP, 3), (3, SKIP, 2)])
        self.makes((("loop", (("loop", (("break",), ("next",))),)),), 4, [(0, SKIP, 0), (3, SKIP, 0)])

    def test_breaks_and_nexts_within_ifs(self):
        self.makes((("while", B, (("if", A, (("break",),), (("next",),)),)),), 6,
                   tests_at(0, B, 3, 2) + tests_at(3, A, 4, 5) + [(4, SKIP, 2), (5, SKIP, 0)])
        self.makes((("loop", (("if", A, (("while", B, (("break",),)), ("break",)), ()), SKIP)), SKIP), 9,
                   tests_at(0, A, 5, 6) + tests_at(5, B, 8, 7) + [(8, SKIP, 7), (7, SKIP, 3), (6, SKIP, 4), (4, SKIP, 0),
                                                                  (3, SKIP, 2)])

    def test_conditions(self):
        end = [(3, SKIP, 2), (4, SKIP, 2)]
        self.makes((("if", ("not", A), (), ()),), 5, tests_at(0, A, 4, 3) + end)
        self.makes((("if", ("not", ("not", A)), (), ()),), 5, tests_at(0, A, 3, 4) + end)
        self.makes((("if", ("and", A, B), (), ()),), 6, tests_at(0, A, 5, 4) + tests_at(5, B, 3, 4) + end)
        self.makes((("if", ("or", A, B), (), ()),), 6, tests_at(0, A, 3, 5) + tests_at(5, B, 3, 4) + end)
        self.makes((("if", ("and", ("or", A, B), C), (), ()),), 7,
                   tests_at(0, A, 5, 6) + tests_at(6, B, 5, 4) + tests_at(5, C, 3, 4) + end)
        self.makes((("if", ("or", A, ("and", B, C)), (), ()),), 7,
                   tests_at(0, A, 3, 5) + tests_at(5, B, 6, 4) + tests_at(6, C, 3, 4) + end)
        self.makes((("if", ("not", ("and", A, ("not", B))), (), ()),), 6,
                   tests_at(0, A, 5, 3) + tests_at(5, B, 3, 4) + end)
        self.makes((("while", ("not", ("or", A, B)), (("skip",),)),), 5,
                   tests_at(0, A, 2, 4) + tests_at(4, B, 2, 3) + [(3, SKIP, 0)])

    def test_facts_of_all_graphs(self):
        for program in programs(31, 150):
            graph = graph_of(program)
            for at, edge in enumerate(graph.edges):
                self.assertTrue(0 <= edge.start < graph.points and 0 <= edge.end < graph.points)
                self.assertEqual(edge.end == 1, edge.deed[0] == "give")
                if edge.deed[0] == "test" and edge.deed[2]:
                    self.assertEqual(graph.edges[at + 1].start, edge.start)
                    self.assertEqual(graph.edges[at + 1].deed, ("test", edge.deed[1], False))
            for point in range(graph.points):
                begun = [graph.edges[at].deed[0] for at in ways_from(graph, point)]
                self.assertTrue(begun == ["test"] * 2 or len(begun) == (point != 1) and "test" not in begun)


class Names(unittest.TestCase):

    def test_names_read(self):
        for deed, names in ((SKIP, ()), (("give", "a"), ("a",)), (("give", 3), ()), (("set", "x", ("as", "y")), ("y",)),
                            (("set", "x", ("as", 1)), ()), (("set", "x", ("plus", "x", "x")), ("x",)),
                            (("set", "x", ("less", "z", "y")), ("z", "y")), (("set", "x", ("times", "y", 3)), ("y",)),
                            (("set", "x", ("plus", 1, "y")), ("y",)), (("test", ("below", "b", "a"), True), ("b", "a")),
                            (("test", ("most", 1, "a"), False), ("a",)), (("test", ("is", "a", "a"), True), ("a",)),
                            (("test", ("is", 1, 2), True), ()), (("set", "set", ("as", "as")), ("as",))):
            self.assertEqual(names_read(deed), names)
            self.assertIs(names_read(deed).__class__, tuple)
        self.assertEqual(names_read(["set", "x", ["less", "z", "y"]]), ("z", "y"))

    def test_name_set(self):
        self.assertEqual(name_set(("set", "x", ("as", "y"))), "x")
        self.assertEqual(name_set(["set", "set", ["as", 1]]), "set")
        for deed in (SKIP, ("give", "a"), ("test", A, True)):
            self.assertIsNone(name_set(deed))


class Ways(Case):

    def test_ways_from_and_to(self):
        graph = graph_of(Program("p", (), (("while", B, (("if", A, (("break",),), (("next",),)),)),)))
        self.assertEqual([ways_from(graph, point) for point in range(6)], [(0, 1), (), (6,), (2, 3), (4,), (5,)])
        self.assertEqual([ways_to(graph, point) for point in range(6)], [(5,), (6,), (1, 4), (0,), (2,), (3,)])
        self.assertIs(ways_from(graph, 0).__class__, tuple)
        self.assertEqual(ways_to(graph_of(EMPTY), 0), ())
        loop = graph_of(Program("p", (), (("loop", ()),)))
        self.assertEqual((ways_from(loop, 0), ways_to(loop, 0), ways_to(loop, 2)), ((0,), (0,), ()))

    def test_points_that_are_none(self):
        graph = graph_of(GCD)
        for call in (ways_from, ways_to):
            for point in (-1, graph.points, True, False, None, "0", 0.0, (0,), [0]):
                self.refused_with(BadPoint, "value", point, call, graph, point)
            call(graph, graph.points - 1)
            call(graph, 1)


class Walks(Case):

    def test_from_the_begin(self):
        graph = graph_of(GCD)
        for turns in range(40):
            self.assertEqual(walked(graph, (("a", 12), ("b", 18)), turns), run(GCD, (12, 18), turns))
        self.assertEqual(walked(graph, [["a", 35]], 400), Done(35, 2))
        self.assertEqual(walked(graph, (), 2), Done(0, 2))
        self.assertIsNone(walked(graph, (), 1))
        self.assertIsNone(walked(graph, (), 0))

    def test_from_every_point(self):
        graph = graph_of(STEPS)
        told = {point: walked_from(graph, point, (("a", 1), ("s", 7)), 400) for point in range(graph.points) if point != 1}
        expected = {0: (3, 10), 2: (0, 1), 3: (10, 9), 4: (7, 1), 5: (13, 13), 6: (7, 2), 7: (10, 8), 8: (11, 12),
                    9: (11, 10), 10: (10, 10), 11: (11, 11)}
        self.assertEqual({point: (done.value, done.turns) for point, done in told.items()}, expected)
        for point, (value, turns) in expected.items():
            self.assertIsNone(walked_from(graph, point, [["s", 7], ["a", 1]], turns - 1))
            self.assertEqual(walked_from(graph, point, [["s", 7], ["a", 1]], turns), Done(value, turns))

    def test_all_points_on_the_way_of_a_run(self):
        for program in [GCD, STEPS] + programs(41, 60):
            graph = graph_of(program)
            for row in rows_for(program, 42, 2):
                done = run(program, row, 40)
                point = 0
                for turns, deed in enumerate(deeds(program, row, 40)):
                    values = tuple(zip(program.names(), values_after(program, row, turns)))
                    told = walked_from(graph, point, values, 40 - turns)
                    self.assertEqual(told, None if done is None else Done(done.value, done.turns - turns))
                    gone = [edge for edge in graph.edges if edge.start == point and edge.deed == deed]
                    self.assertEqual(len(gone), 1)
                    point = gone[0].end
                self.assertEqual(point == 1, done is not None)

    def test_runs_and_walks_agree(self):
        for program in programs(43, 150):
            graph = graph_of(program)
            for row in rows_for(program, 44, 3):
                for turns in (0, 1, 2, 3, 5, 8, 13, 100):
                    self.assertEqual(walked(graph, tuple(zip(program.inputs, row)), turns), run(program, row, turns))

    def test_values_of_names_that_are_not_there(self):
        graph = graph_of(program_of("program p\ngive x\nend"))
        self.assertEqual(walked(graph, (("y", 3),), 5), Done(0, 1))
        self.assertEqual(walked(graph, (("y", 3), ("x", 4)), 5), Done(4, 1))
        values = [["x", 10 ** 60]]
        self.assertEqual(walked_from(graph, 0, values, 1), Done(10 ** 60, 1))
        self.assertEqual(values, [["x", 10 ** 60]])

    def test_a_walk_changes_no_values_that_are_handed_in(self):
        graph = graph_of(program_of("program p\nx = 5\ngive x\nend"))
        values = [["x", 1]]
        self.assertEqual(walked(graph, values, 9), Done(5, 2))
        self.assertEqual(values, [["x", 1]])

    def test_points_and_turns_that_are_none(self):
        graph = graph_of(GCD)
        for point in (1, -1, graph.points, True, False, None, "0", 0.0, (0,), [0]):
            self.refused_with(BadPoint, "value", point, walked_from, graph, point, (), None)
            self.refused_with(BadPoint, "value", point, walked_from, graph, point, (), 5)
        for turns in (None, -1, True, False, "1", 1.0, (1,)):
            self.refused(BadNumber, {"what": "turns", "value": turns}, walked_from, graph, 0, (), turns)
            self.refused(BadNumber, {"what": "turns", "value": turns}, walked, graph, (), turns)


if __name__ == "__main__":
    unittest.main()
