"""[59]: programs with jumps."""

import itertools
import random
import unittest

from sevenpoints.errors import BadRow, TooMany
from sevenpoints.graphs import Edge, Graph, graph_of
from sevenpoints.jumps import jumped, lots_with, wide_jumps
from sevenpoints.lots import Lot, is_tree, lots_of, width
from sevenpoints.nets import Net, Tie, least_sum, sum_of
from sevenpoints.texts import program_of
from sevenpoints.widths import bare_of
from tests.checks import Case
from tests.samples import EMPTY, GCD, STEPS, programs
from tests.test_widths import width_by_orders

SKIP = ("skip",)


def random_jumps(graph, dice, many):
    """Jumps of a graph."""
    starts = [point for point in range(graph.points) if point != 1]
    return [(dice.choice(starts), dice.randrange(graph.points)) for _ in range(many)]


def lined(points):
    """A graph of points in a line, by hand."""
    return Graph(points, [Edge(at, SKIP, at + 1) for at in range(points - 1)])


class Jumped(Case):

    def test_edges_in_order(self):
        graph = graph_of(EMPTY)
        told = jumped(graph, [[2, 0], (0, 0), (2, 0), (0, 1)])
        self.assertEqual(told, Graph(3, list(graph.edges) + [Edge(2, SKIP, 0), Edge(0, SKIP, 0), Edge(2, SKIP, 0), Edge(0, SKIP, 1)]))
        self.assertEqual(jumped(graph, ()), graph)
        self.assertEqual(graph, graph_of(EMPTY))
        self.assertEqual(jumped(told, [(0, 2)]).edges[-1], Edge(0, SKIP, 2))

    def test_errors(self):
        graph = graph_of(EMPTY)
        for jumps in (None, 3, "ab", {}, (3,), ("ab",), ((0,),), ((0, 1, 2),), ((1, 0),), ((1, 1),), ((0, 3),), ((3, 0),), ((-1, 0),),
                      ((0, True),), ((False, 0),), ((0, None),), ((0, "1"),), ((0, 1.0),), ((0, 2), (1, 2)), ((0, 2), None), {0: 2}):
            self.refused_with(BadRow, "value", jumps, jumped, graph, jumps)


class LotsWith(Case):

    def test_points_are_put_in(self):
        lots = (Lot((0, 2), None), Lot((1, 2), 0), Lot((), 1))
        self.assertEqual(lots_with(lots, [2, 7, 1, 7]), (Lot((0, 1, 2, 7), None), Lot((1, 2, 7), 0), Lot((1, 2, 7), 1)))
        self.assertEqual(lots_with(lots, ()), lots)
        self.assertEqual(lots_with((), (3,)), ())

    def test_a_tree_of_the_graph_with_the_jumps(self):
        dice = random.Random(80)
        for program in [EMPTY, GCD, STEPS] + programs(80, 60):
            graph, lots = graph_of(program), lots_of(program)
            jumps = random_jumps(graph, dice, dice.randint(0, 4))
            told = lots_with(lots, [start for start, _ in jumps])
            self.assertIs(is_tree(jumped(graph, jumps), told), True)
            self.assertLessEqual(width(told), 6 + len(jumps))
            self.assertEqual([lot.parent for lot in told], [lot.parent for lot in lots])

    def test_nets_along_jumps(self):
        dice = random.Random(81)
        program = program_of("program p of a\nwhile a below 3\na = a plus 1\nend\nend")
        graph = graph_of(program)
        for _ in range(10):
            jumps = random_jumps(graph, dice, 2)
            ties = [Tie(edge.start, edge.end, [[dice.choice((None, 0, 1, 5)) for _ in range(2)] for _ in range(2)])
                    for edge in jumped(graph, jumps).edges]
            net = Net([2] * graph.points, ties)
            sums = [sum_of(net, choice) for choice in itertools.product(range(2), repeat=graph.points)]
            told = [one for one in sums if one is not None]
            self.assertEqual(least_sum(net, lots_with(lots_of(program), [start for start, _ in jumps])), min(told) if told else None)


class WideJumps(Case):

    def by_hand(self, graph):
        """All jumps that make the least width greater, from the definition."""
        least = width_by_orders(bare_of(graph))
        return tuple((start, end) for start in range(graph.points) for end in range(graph.points) if start != 1 and start != end
                     and width_by_orders(bare_of(jumped(graph, [(start, end)]))) > least)

    def test_against_all_orders(self):
        dice = random.Random(82)
        graphs = [Graph(points, []) for points in range(2, 5)] + [lined(points) for points in range(2, 6)]
        graphs += [Graph(5, [Edge(*pair, end) for pair, end in (((0, SKIP), 2), ((2, SKIP), 0), ((3, SKIP), 3), ((3, SKIP), 4))])]
        graphs += [Graph(5, [Edge(dice.randrange(5), SKIP, dice.randrange(5)) for _ in range(many)]) for many in (2, 4, 6, 8, 10)]
        graphs += [graph for graph in map(graph_of, programs(82, 40)) if graph.points < 6]
        wide = 0
        for graph in graphs:
            told = wide_jumps(graph)
            self.assertEqual(told, self.by_hand(graph))
            wide += len(told)
        self.assertGreater(wide, 30)

    def test_no_jump_goes_on_from_the_end(self):
        self.assertEqual(wide_jumps(Graph(3, [])), ((0, 1), (0, 2), (2, 0), (2, 1)))
        self.assertEqual(wide_jumps(Graph(2, [])), ((0, 1),))
        self.assertEqual(wide_jumps(Graph(2, [Edge(0, SKIP, 1)])), ())
        self.assertEqual(wide_jumps(lined(4)), ((0, 2), (0, 3), (2, 0), (3, 0), (3, 1)))

    def test_a_loop_that_is_jumped_into(self):
        program = program_of("program p of a\nwhile a below 3\na = a plus 1\nend\nend")
        graph = graph_of(program)
        told = wide_jumps(graph)
        self.assertEqual(told, self.by_hand(graph))
        self.assertTrue(all(start != 1 for start, _ in told))

    def test_too_many_points(self):
        self.refused(TooMany, {"what": "points", "limit": 10}, wide_jumps, lined(11))
        told = wide_jumps(lined(10))
        self.assertEqual(told, tuple((start, end) for start in range(10) for end in range(10) if abs(start - end) > 1 and start != 1))


if __name__ == "__main__":
    unittest.main()
