"""[19] to [25]: lots of at most seven points."""

import unittest

from sevenpoints.errors import BadNumber
from sevenpoints.graphs import Edge, Graph, graph_of
from sevenpoints.lots import Lot, below, home_of, is_tree, lots_of, shared, width
from sevenpoints.programs import Program
from tests.checks import Case
from tests.samples import EMPTY, FOREVER, GCD, STEPS, programs

SKIP = ("skip",)
A, B, C = ("is", "a", 1), ("below", "b", 2), ("most", 3, "c")


def skips(points, *pairs):
    """A graph with these edges."""
    return Graph(points, [Edge(one, SKIP, other) for one, other in pairs])


def lots(*rows):
    """A tuple of Lots."""
    return tuple(Lot(points, parent) for points, parent in rows)


class Objects(unittest.TestCase):

    def test_equality(self):
        self.assertEqual(Lot((0, 1), None), Lot([0, 1], None))
        self.assertFalse(Lot((0, 1), 3) != Lot((0, 1), 3))
        for other in (Lot((0, 1), 1), Lot((0, 2), None), Lot((1, 0), None), Lot((0, 1, 2), None), None, ((0, 1), None)):
            self.assertNotEqual(Lot((0, 1), None), other)
            self.assertFalse(Lot((0, 1), None) == other)

    def test_what_is_given_is_kept_lists_as_tuples(self):
        lot = Lot([2, [1]], "x")
        self.assertEqual((lot.points, lot.parent), ((2, (1,)), "x"))

    def test_width(self):
        self.assertEqual(width(lots(((0, 1, 2), None))), 2)
        self.assertEqual(width(list(lots(((0, 1), None), ((0, 1, 2, 3), 0), ((3,), 1)))), 3)
        self.assertEqual(width(lots(((4,), None))), 0)
        self.assertEqual(width(lots_of(EMPTY)), 2)


class Judged(unittest.TestCase):

    # The points 0 - 1 - 2 - 3 - 0 in a ring, and 4 at the point 2.
    RING = skips(5, (0, 1), (1, 2), (2, 3), (3, 0), (4, 2), (2, 2))
    RIGHT = (((0, 1, 2), None), ((0, 2, 3), 0), ((2, 4), 1))

    def judged(self, told):
        self.assertIs(is_tree(self.RING, told), False, told)

    def test_right_trees(self):
        for told in (lots(*self.RIGHT), lots(((0, 1, 2, 3, 4), None)), lots(((2, 4), None), ((0, 2, 3), 0), ((0, 1, 2), 1)),
                     lots(*self.RIGHT, ((), 0), ((), 3)), lots(*self.RIGHT, ((2, 4), 2), ((2,), 3)),
                     lots(((), None), ((0, 1, 2, 3), 0), ((2, 4), 1)), lots(([0, 1, 2], None), ([0, 2, 3], 0), ([2, 4], 0))):
            self.assertIs(is_tree(self.RING, told), True)
        self.assertIs(is_tree(skips(1), lots(((0,), None))), True)
        self.assertIs(is_tree(skips(2), lots(((0,), None), ((1,), 0))), True)

    def test_points_or_edges_in_no_lot(self):
        self.judged(lots(((0, 1, 2), None), ((0, 2, 3), 0)))
        self.judged(lots(((0, 1, 2), None), ((0, 2, 3), 0), ((4,), 1)))
        self.judged(lots(((0, 1), None), ((0, 3), 0), ((2, 3), 1), ((2, 4), 2)))
        self.judged(lots(((0, 1), None)))
        self.assertIs(is_tree(skips(2), lots(((0,), None))), False)
        self.assertIs(is_tree(skips(1, (0, 0)), lots(((), None))), False)

    def test_lots_that_do_not_hang_together(self):
        self.judged(lots(((0, 1, 2), None), ((2, 4), 0), ((0, 2, 3), 1)))
        self.judged(lots(((0, 1, 2), None), ((0, 2, 3), 0), ((4,), 0), ((2, 4), 2)))
        self.judged(lots(((0, 1, 2), None), ((0, 2, 3), 0), ((2, 4), 1), ((4,), 1)))
        self.judged(lots(((), None), ((0, 1, 2, 3), 0), ((2, 4), 0)))
        self.judged(lots(*self.RIGHT, ((2,), 2), ((2, 4), 3)))

    def test_wrong_parents(self):
        for parent in (0, True, 1, -1, "", ()):
            self.judged(lots(((0, 1, 2, 3, 4), parent)))
        for parent in (None, -1, 1, 2, 3, False, "0", 0.0, (0,)):
            self.judged(lots(((0, 1, 2), None), ((0, 2, 3), parent), ((2, 4), 0)))
        self.judged(lots(((0, 1, 2), None), ((0, 2, 3), 0), ((2, 4), True)))
        # No points lack at the parents, but they are no earlier lots.
        self.judged(lots(((0, 1, 2), None), ((0, 2, 3), 2), ((0, 2, 4), 0)))
        self.judged(lots(*self.RIGHT, ((), 3)))

    def test_wrong_points(self):
        for points in ((0, 2, 2, 3), (0, 3, 2), (0, 2, 3, 5), (-1, 0, 2, 3), (False, 2, 3), (0, 2, "3"), (0, 2, 3.0), (0, None),
                       "023", 3, None, {0: 1, 2: 1, 3: 1}, {0, 2, 3}, ((0, 2, 3),), (0, (2, 3))):
            self.judged(lots(((0, 1, 2), None), (points, 0), ((2, 4), 0)))
        self.assertIs(is_tree(skips(2), lots(((-1, 0), None))), False)

    def test_any_other_values(self):
        right = lots(*self.RIGHT)
        for told in (None, 0, True, "", "lots", b"", {}, {1}, 1.5, (), [], list(right), right[0], (right,), right + (None,),
                     (None,) + right, (((0, 1, 2, 3, 4), None),), ("", ""), object(), is_tree, self.RING, Lot):
            self.judged(told)

    def test_other_graphs(self):
        right = lots(*self.RIGHT)
        self.assertIs(is_tree(skips(6, (0, 1)), right), False)
        self.assertIs(is_tree(skips(4, (0, 1)), right), False)
        self.assertIs(is_tree(skips(5), right), True)
        self.assertIs(is_tree(skips(5, (1, 3)), right), False)
        self.assertIs(is_tree(graph_of(STEPS), lots_of(GCD)), False)


class Made(unittest.TestCase):
    """Lots in the order of the document."""

    def makes(self, block, *rows):
        told = lots_of(Program("p", (), block))
        self.assertEqual([(lot.points, lot.parent) for lot in told], list(rows))
        self.assertIs(told.__class__, tuple)
        self.assertEqual(told, lots(*rows))

    def test_no_statement_and_one(self):
        for block in ((), (SKIP,), (("set", "x", ("as", 1)),), (("give", 1),)):
            self.makes(block, ((0, 1, 2), None))

    def test_several_statements(self):
        self.makes((SKIP, ("give", 1)), ((0, 1, 2), None), ((0, 1, 2, 3), 0), ((0, 1, 3), 1), ((1, 2, 3), 1))
        self.makes((SKIP,) * 3, ((0, 1, 2), None), ((0, 1, 2, 3), 0), ((0, 1, 3), 1), ((1, 2, 3), 1), ((1, 2, 3, 4), 3),
                   ((1, 3, 4), 4), ((1, 2, 4), 4))

    def test_ifs(self):
        self.makes((("if", A, (), ()),), ((0, 1, 2), None), ((0, 1, 2, 3, 4), 0), ((0, 3, 4), 1), ((1, 2, 3), 1), ((1, 2, 4), 1))
        self.makes((("if", A, (SKIP, SKIP), (("give", 1),)), SKIP), ((0, 1, 2), None), ((0, 1, 2, 3), 0), ((0, 1, 3), 1),
                   ((0, 1, 3, 4, 5), 2), ((0, 4, 5), 3), ((1, 3, 4), 3), ((1, 3, 4, 6), 5), ((1, 4, 6), 6), ((1, 3, 6), 6),
                   ((1, 3, 5), 3), ((1, 2, 3), 1))

    def test_whiles(self):
        self.makes((("while", A, ()),), ((0, 1, 2), None), ((0, 1, 2, 3), 0), ((0, 2, 3), 1), ((0, 1, 2, 3), 1))
        self.makes((("while", B, (("if", A, (("break",),), (("next",),)),)),), ((0, 1, 2), None), ((0, 1, 2, 3), 0),
                   ((0, 2, 3), 1), ((0, 1, 2, 3), 1), ((0, 1, 2, 3, 4, 5), 3), ((3, 4, 5), 4), ((0, 1, 2, 4), 4),
                   ((0, 1, 2, 5), 4))

    def test_the_joint_of_a_while_has_no_points_of_the_loop_round_it(self):
        self.makes((("loop", (SKIP, ("while", A, ()), SKIP)), SKIP), ((0, 1, 2), None), ((0, 1, 2, 3), 0), ((0, 1, 3), 1),
                   ((0, 1, 3), 2), ((0, 1, 3, 4), 3), ((0, 1, 3, 4), 4), ((0, 1, 3, 4), 4), ((0, 1, 3, 4, 5), 6),
                   ((0, 1, 3, 4, 5), 7), ((1, 4, 5, 6), 8), ((4, 5, 6), 9), ((1, 4, 5, 6), 9), ((0, 1, 3, 5), 7),
                   ((1, 2, 3), 1))

    def test_loops(self):
        self.makes((("loop", ()),), ((0, 1, 2), None), ((0, 1, 2), 0))
        self.makes((("loop", (("loop", (("break",),)),)),), ((0, 1, 2), None), ((0, 1, 2), 0), ((0, 1), 1))
        self.makes((("loop", (SKIP, ("break",))),), ((0, 1, 2), None), ((0, 1, 2), 0), ((0, 1, 2, 3), 1), ((0, 1, 2, 3), 2),
                   ((0, 1, 2, 3), 2))

    def test_conditions(self):
        head = (((0, 1, 2), None), ((0, 1, 2, 3, 4), 0), ((0, 3, 4), 1))
        tail = (((1, 2, 3), 1), ((1, 2, 4), 1))
        self.makes((("if", ("not", ("not", A)), (), ()),), *head, *tail)
        self.makes((("if", ("not", A), (), ()),), *head, *tail)
        self.makes((("if", ("and", A, B), (), ()),), *head, ((0, 3, 4, 5), 2), ((0, 4, 5), 3), ((3, 4, 5), 3), *tail)
        self.makes((("if", ("or", A, B), (), ()),), *head, ((0, 3, 4, 5), 2), ((0, 3, 5), 3), ((3, 4, 5), 3), *tail)
        self.makes((("if", ("not", ("and", A, B)), (), ()),), *head, ((0, 3, 4, 5), 2), ((0, 3, 5), 3), ((3, 4, 5), 3), *tail)
        self.makes((("if", ("and", ("or", A, B), ("not", C)), (), ()),), *head, ((0, 3, 4, 5), 2), ((0, 4, 5), 3),
                   ((0, 4, 5, 6), 4), ((0, 5, 6), 5), ((4, 5, 6), 5), ((3, 4, 5), 3), *tail)
        self.makes((("while", ("or", A, B), ()),), ((0, 1, 2), None), ((0, 1, 2, 3), 0), ((0, 2, 3), 1), ((0, 2, 3, 4), 2),
                   ((0, 3, 4), 3), ((2, 3, 4), 3), ((0, 1, 2, 3), 1))

    def test_seven_points(self):
        told = lots_of(Program("p", (), (("loop", (SKIP, ("if", A, (), ()), SKIP)),)))
        self.assertEqual(told[6], Lot((0, 1, 2, 3, 4), 5))
        self.assertEqual(told[7], Lot((0, 1, 2, 3, 4, 5, 6), 6))
        self.assertEqual(width(told), 6)

    def test_trees_of_all_programs(self):
        seven = 0
        for program in [EMPTY, FOREVER, GCD, STEPS] + programs(61, 150):
            told = lots_of(program)
            graph = graph_of(program)
            self.assertIs(is_tree(graph, told), True)
            self.assertIs(is_tree(graph, list(told)), False)
            self.assertLessEqual(width(told), 6)
            seven += width(told) == 6
            for lot in told:
                self.assertEqual(lot.points, tuple(sorted(set(lot.points))))
            for edge in graph.edges:
                self.assertIsNotNone(home_of(told, edge.start, edge.end))
        self.assertGreater(seven, 0)


class Asked(Case):

    LOTS = lots(((0, 1, 2), None), ((0, 2, 3), 0), ((2, 4), 0), ((0, 3, 5), 1), ((6,), 2), ((3, 7), 3), ((2,), 2))

    def test_shared(self):
        for told in (self.LOTS, list(self.LOTS)):
            self.assertEqual([shared(told, index) for index in range(7)], [(), (0, 2), (2,), (0, 3), (), (3,), (2,)])
        self.assertEqual(shared(lots(((), None)), 0), ())

    def test_home_of(self):
        for one, other, home in ((0, 2, 0), (2, 0, 0), (0, 3, 1), (2, 4, 2), (5, 3, 3), (7, 3, 5), (1, 3, None), (4, 0, None),
                                 (6, 6, 4), (3, 3, 1), (0, 0, 0), (8, 8, None), (8, 0, None)):
            self.assertEqual(home_of(self.LOTS, one, other), home)
            self.assertEqual(home_of(list(self.LOTS), one, other), home)

    def test_below(self):
        for told in (self.LOTS, list(self.LOTS)):
            self.assertEqual([below(told, index) for index in range(7)],
                             [(0, 1, 2, 3, 4, 5, 6), (1, 3, 5), (2, 4, 6), (3, 5), (4,), (5,), (6,)])

    def test_indices_that_are_none(self):
        for call in (shared, below):
            for index in (-1, 7, 100, True, False, None, "0", 0.0, (0,), [1]):
                error = self.refused(BadNumber, {"what": "index", "value": index}, call, self.LOTS, index)
                self.assertIs(error.value, index)

    def test_points_below_a_lot_are_not_elsewhere(self):
        for program in [GCD, STEPS] + programs(62, 40):
            told = lots_of(program)
            for index, lot in enumerate(told):
                inside = below(told, index)
                hidden = {point for at in inside for point in told[at].points} - set(lot.points)
                for at, other in enumerate(told):
                    if at not in inside:
                        self.assertFalse(hidden & set(other.points))
                # Each lot below has its parent below, too.
                self.assertTrue(all(at == index or told[at].parent in inside for at in inside))
                self.assertTrue(all(told[at].parent not in inside for at in range(len(told)) if at not in inside))


if __name__ == "__main__":
    unittest.main()
