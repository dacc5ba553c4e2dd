"""[12]: how often edges are taken."""

import unittest

from sevenpoints.errors import BadNumber, BadRow
from sevenpoints.graphs import graph_of
from sevenpoints.meaning import deeds, run
from sevenpoints.tallies import counts
from sevenpoints.texts import program_of
from tests.checks import Case
from tests.samples import EMPTY, FOREVER, GCD, programs, rows_for

COUNT = program_of("program p of a\nwhile 0 below a\na = a less 1\nend\ngive 7\nend")


class Counts(Case):

    def test_edge_by_edge(self):
        # The edges are those of the test, of the set, of the give, and of the finish.
        self.assertEqual(counts(COUNT, [(0,)], 400), (0, 1, 0, 1, 0))
        self.assertEqual(counts(COUNT, [(3,)], 400), (3, 1, 3, 1, 0))
        self.assertEqual(counts(COUNT, [[0], [3], [1]], 400), (4, 3, 4, 3, 0))
        self.assertEqual(counts(EMPTY, ((), ()), 400), (2, 2))
        self.assertEqual(counts(COUNT, (), 400), (0,) * 5)
        self.assertIs(counts(COUNT, [[0]], 9).__class__, tuple)

    def test_the_same_row_twice(self):
        self.assertEqual(counts(COUNT, [(3,), (3,)], 400), (6, 2, 6, 2, 0))
        self.assertEqual(counts(COUNT, [(3,), [3], (3,)], 3), (6, 0, 3, 0, 0))

    def test_cut_off_by_the_turns(self):
        for turns, told in ((0, (0, 0, 0, 0, 0)), (1, (1, 0, 0, 0, 0)), (2, (1, 0, 1, 0, 0)), (6, (3, 0, 3, 0, 0)),
                            (7, (3, 1, 3, 0, 0)), (8, (3, 1, 3, 1, 0)), (9, (3, 1, 3, 1, 0))):
            self.assertEqual(counts(COUNT, ((3,),), turns), told)
        self.assertEqual(counts(FOREVER, [()], 400), (400, 0))

    def test_as_many_as_there_are_turns(self):
        for program in programs(51, 80):
            rows = rows_for(program, 52, 4)
            graph = graph_of(program)
            told = counts(program, rows, 70)
            self.assertEqual(len(told), len(graph.edges))
            gone = [deed for row in rows for deed in deeds(program, row, 70)]
            self.assertEqual(sum(told), len(gone))
            for deed in gone:
                same = sum(many for many, edge in zip(told, graph.edges) if edge.deed == deed)
                self.assertEqual(same, gone.count(deed))

    def test_what_comes_to_a_point_goes_on_from_it(self):
        for program in [GCD, COUNT] + programs(53, 120):
            rows = [row for row in rows_for(program, 54, 5) if run(program, row, 300) is not None]
            graph = graph_of(program)
            told = counts(program, rows, 300)
            flow = [0] * graph.points
            for many, edge in zip(told, graph.edges):
                flow[edge.start] += many
                flow[edge.end] -= many
            self.assertEqual(flow, [len(rows), -len(rows)] + [0] * (graph.points - 2))

    def test_errors_in_their_order(self):
        for rows in (None, 3, "a", (1,), [1], [(1, 2)], [(1,), ()], [(True,)], [("a",)], {(1,): 1}, [[1], None]):
            self.refused_with(BadRow, "value", rows, counts, COUNT, rows, None)
        for turns in (None, -1, True, "1", 1.0, [2]):
            self.refused(BadNumber, {"what": "turns", "value": turns}, counts, COUNT, [(1,)], turns)
            self.refused(BadNumber, {"what": "turns", "value": turns}, counts, COUNT, [], turns)


if __name__ == "__main__":
    unittest.main()
