"""[32] to [35]: placings, their pieces and costs, and the nets whose choices they are."""

import itertools
import math
import random
import unittest

from sevenpoints.errors import BadNumber, BadPoint, BadRow, TooMany
from sevenpoints.graphs import graph_of, name_set, names_read
from sevenpoints.lots import lots_of
from sevenpoints.nets import Net, Tie, sum_of
from sevenpoints.placings import cost, is_placing, many_stands, net_of, pieces, stands
from sevenpoints.programs import Program
from sevenpoints.texts import program_of
from sevenpoints.wants import wanted
from tests.checks import Case
from tests.samples import EMPTY, GCD, STEPS, programs

OTHERS = (None, 0, True, "", "ab", b"", 1.5, {}, {1}, [], (), ((),), [()], (None,), object(), Net, EMPTY)

ADD = program_of("program add of b a\nc = a plus b\ngive c\nend\n")
HOLD = program_of("program hold of a\nloop\nskip\nif a is a\nbreak\nend\nend\ngive a\nend\n")


def all_placings(program, registers):
    """All placings of a program with so many registers."""
    points = range(graph_of(program).points)
    return list(itertools.product(*[stands(program, registers, point) for point in points]))


def random_placing(program, registers, dice):
    """A placing of a program with so many registers."""
    points = range(graph_of(program).points)
    return tuple(dice.choice(stands(program, registers, point)) for point in points)


def random_prices(program, dice):
    """A price for each edge."""
    return [dice.choice((0, 1, 2, 3, 7, 10 ** 20 - 1)) for _ in graph_of(program).edges]


class Stands(Case):

    def test_stands_in_their_order(self):
        self.assertEqual([stands(ADD, 0, point) for point in range(4)], [((None, None),), ((),), ((),), ((None,),)])
        self.assertEqual(stands(ADD, 1, 0), ((0, None), (None, 0), (None, None)))
        self.assertEqual(stands(ADD, 2, 0), ((0, 1), (0, None), (1, 0), (1, None), (None, 0), (None, 1), (None, None)))
        self.assertEqual(stands(ADD, 2, 3), ((0,), (1,), (None,)))
        self.assertEqual(stands(ADD, 5, 1), ((),))
        self.assertEqual(stands(EMPTY, 10 ** 30, 0), ((),))

    def test_all_stands_of_many_names(self):
        program = Program("p", (), [("if", ("is", "a", "b"), [("give", "c")], [("give", "d")])])
        for registers in range(5):
            told = stands(program, registers, 0)
            rows = [row for row in itertools.product(list(range(registers)) + [None], repeat=4)
                    if all(row.count(item) == 1 for item in row if item is not None)]
            self.assertEqual(told, tuple(rows))
            self.assertEqual(len(told), many_stands(4, registers))
            self.assertTrue(all(stand.__class__ is tuple for stand in told))

    def test_errors_in_their_order(self):
        for registers in (None, -1, True, False, "1", 1.0, (1,), [0]):
            self.refused(BadNumber, {"what": "registers", "value": registers}, stands, ADD, registers, None)
        for point in (None, -1, 4, True, "0", 0.0, (0,)):
            self.refused_with(BadPoint, "value", point, stands, ADD, 1, point)


class Judged(Case):

    def test_right_ones(self):
        self.assertIs(is_placing(ADD, 0, ((None, None), (), (), (None,))), True)
        self.assertIs(is_placing(ADD, 2, ((1, 0), (), (), (1,))), True)
        self.assertIs(is_placing(ADD, 10 ** 30, ((10 ** 30 - 1, None), (), (), (7,))), True)
        for program in [GCD, STEPS, HOLD] + programs(91, 20):
            dice = random.Random(92)
            for registers in range(3):
                told = random_placing(program, registers, dice)
                self.assertIs(is_placing(program, registers, told), True)
                self.assertIs(is_placing(program, registers + 1, told), True)
                self.assertIs(is_placing(program, registers, list(told)), False)
                highest = max([item for stand in told for item in stand if item is not None], default=-1)
                self.assertIs(is_placing(program, highest + 1, told), True)
                if highest >= 0:
                    self.assertIs(is_placing(program, highest, told), False)

    def test_wrong_stands(self):
        for stand in ((0, 0), (2, 0), (0, 2), (-1, 0), (True, None), (False, None), (0, "a"), (0, 1.0), (0,), (0, 1, None), (),
                      [0, 1], (0, (1,)), None, "01", {0: 1, 1: 1}, 5, (None, 10 ** 30)):
            self.assertIs(is_placing(ADD, 2, (stand, (), (), (0,))), False)
        self.assertIs(is_placing(ADD, 2, ((None, 1), (), (), (0,))), True)

    def test_other_forms(self):
        right = ((1, 0), (), (), (1,))
        for told in OTHERS + (right[:3], right + ((),), list(right), [list(stand) for stand in right], (right,), dict(enumerate(right)),
                              ((1, 0), (), (), [1]), ((1, 0), (0,), (), (1,)), ((1, 0), None, (), (1,)), ((1, 0), "", (), (1,))):
            self.assertIs(is_placing(ADD, 2, told), False)
        self.assertIs(is_placing(ADD, 2, right), True)

    def test_errors(self):
        for registers in (None, -1, True, False, "1", 1.0, (1,)):
            self.refused(BadNumber, {"what": "registers", "value": registers}, is_placing, ADD, registers, None)


def pieces_by_hand(program, placing, index):
    """The pieces of an edge, counted one by one as the document tells them."""
    graph = graph_of(program)
    edge = graph.edges[index]
    ahead, behind = wanted(graph)[edge.start], wanted(graph)[edge.end]
    here, there = placing[edge.start], placing[edge.end]
    many = 0
    for name in set(names_read(edge.deed)):
        many += here[ahead.index(name)] is None
    for name in behind:
        if name == name_set(edge.deed):
            many += there[behind.index(name)] is None
        else:
            many += there[behind.index(name)] != here[ahead.index(name)]
    return many


class Pieces(Case):

    def test_read_and_set(self):
        # The edges: c = a plus b from 0 to 3, give c from 3 to the end, give 0 from 2.
        for stand, rest, told in (((None, None), (None,), (3, 1, 0)), ((0, None), (None,), (2, 1, 0)), ((None, 1), (0,), (1, 0, 0)),
                                  ((0, 1), (0,), (0, 0, 0)), ((1, 0), (None,), (1, 1, 0)), ((5, 9), (70,), (0, 0, 0))):
            placing = (stand, (), (), rest)
            for given in (placing, [list(row) for row in placing], [stand, [], (), rest]):
                self.assertEqual(tuple(pieces(ADD, given, index) for index in range(3)), told)

    def test_a_name_read_twice_is_one_piece(self):
        program = program_of("program p of a\na = a plus a\ngive a\nend")
        self.assertEqual(pieces(program, ((None,), (), (), (0,)), 0), 1)
        self.assertEqual(pieces(program, ((None,), (), (), (None,)), 0), 2)
        self.assertEqual(pieces(program, ((0,), (), (), (None,)), 0), 1)
        # The register that is set may be another one than that which is read.
        self.assertEqual(pieces(program, ((0,), (), (), (1,)), 0), 0)

    def test_read_and_moved_are_two_pieces(self):
        program = program_of("program p of a\nif a is 0\ngive a\nend\ngive a\nend")
        graph = graph_of(program)
        self.assertEqual([(edge.start, edge.end) for edge in graph.edges[:2]], [(0, 4), (0, 5)])
        placing = ((None,), (), (), (1,), (0,), (None,))
        self.assertEqual([pieces(program, placing, index) for index in range(len(graph.edges))], [2, 1, 0, 1, 0, 0])
        self.assertEqual(pieces(program, ((1,), (), (), (1,), (0,), (None,)), 0), 1)
        self.assertEqual(pieces(program, ((1,), (), (), (1,), (1,), (None,)), 0), 0)

    def test_what_is_set_and_not_wanted(self):
        program = program_of("program p of a\nb = a\ngive 1\nend")
        self.assertEqual(wanted(graph_of(program)), (("a",), (), (), ()))
        self.assertEqual(pieces(program, ((None,), (), (), ()), 0), 1)
        self.assertEqual(pieces(program, ((3,), (), (), ()), 0), 0)

    def test_edges_from_a_point_to_itself(self):
        program = Program("p", ("a",), (("loop", (("set", "a", ("plus", "a", 1)),)),))
        self.assertEqual([(edge.start, edge.end) for edge in graph_of(program).edges], [(0, 0), (2, 1)])
        self.assertEqual(pieces(program, ((None,), (), ()), 0), 2)
        self.assertEqual(pieces(program, ((0,), (), ()), 0), 0)

    def test_edge_by_edge(self):
        dice = random.Random(93)
        for program in [GCD, STEPS, ADD, HOLD] + programs(93, 16):
            edges = graph_of(program).edges[:40]
            for registers in range(3):
                placing = random_placing(program, registers, dice)
                told = [pieces(program, placing, index) for index in range(len(edges))]
                self.assertEqual(told, [pieces_by_hand(program, placing, index) for index in range(len(edges))])
                prices = random_prices(program, dice)
                prices[len(told):] = [0] * (len(prices) - len(told))
                self.assertEqual(cost(program, prices, placing), sum(price * many for price, many in zip(prices, told)))
                self.assertEqual(cost(program, tuple(prices), [list(stand) for stand in placing]),
                                 cost(program, prices, placing))

    def test_cost(self):
        self.assertEqual(cost(ADD, (1, 10, 100), ((None, None), (), (), (None,))), 13)
        self.assertEqual(cost(ADD, [5, 10 ** 20, 100], [[0, None], [], [], [None]]), 10 + 10 ** 20)
        self.assertEqual(cost(ADD, (0, 0, 0), ((None, None), (), (), (None,))), 0)
        self.assertEqual(cost(EMPTY, (3, 4), ((), (), ())), 0)

    def test_registers_of_any_number(self):
        self.assertEqual(cost(ADD, (1, 1, 1), ((10 ** 40, 3), (), (), (10 ** 50,))), 0)

    def test_wrong_placings(self):
        right = ((1, 0), (), (), (1,))
        for placing in OTHERS + (right[:3], right + ((),), ((1, 1), (), (), (1,)), ((-1, 0), (), (), (1,)), ((True, 0), (), (), (1,)),
                                 ((1, 0, 2), (), (), (1,)), ((1,), (), (), (1,)), ((1, 0), (), (), ()), ((1, "a"), (), (), (1,)),
                                 ((1, 0.0), (), (), (1,)), ((1, 0), None, (), (1,)), ((1, (0,)), (), (), (1,)), dict(enumerate(right))):
            self.refused_with(BadRow, "value", placing, pieces, ADD, placing, None)
            self.refused_with(BadRow, "value", placing, cost, ADD, (1, 1, 1), placing)
        for index in (None, -1, 3, True, False, "0", 0.0, (0,), [1]):
            self.refused(BadNumber, {"what": "index", "value": index}, pieces, ADD, right, index)

    def test_wrong_prices_ahead_of_wrong_placings(self):
        for prices in OTHERS + ((1, 2), (1, 2, 3, 4), (1, 2, -1), (1, 2, True), (1, 2, "3"), (1, 2, 3.0), (1, 2, None), [[1, 2, 3]],
                                {1: 1, 2: 2, 3: 3}):
            self.refused_with(BadRow, "value", prices, cost, ADD, prices, None)


class Nets(Case):

    def test_a_small_net(self):
        self.assertEqual(net_of(ADD, 1, (1, 10, 100)), Net((3, 1, 1, 2), (
            Tie(0, 3, ((1, 2), (1, 2), (2, 3))), Tie(3, 1, ((0,), (10,))), Tie(2, 1, ((0,),)))))
        self.assertEqual(net_of(ADD, 0, [1, 10, 100]), Net((1, 1, 1, 1), (
            Tie(0, 3, ((3,),)), Tie(3, 1, ((10,),)), Tie(2, 1, ((0,),)))))

    def test_an_edge_from_a_point_to_itself(self):
        program = Program("p", ("a",), (("loop", (("set", "a", ("plus", "a", 1)),)),))
        self.assertEqual(net_of(program, 1, (1, 1)).ties[0], Tie(0, 0, ((0, 1), (1, 2))))
        program = Program("p", ("a",), (("loop", (("if", ("is", "a", 0), [("give", "a")], ()), ("next",))),))
        moved = [tie for tie in net_of(program, 1, (1,) * 6).ties if tie.one == tie.other]
        self.assertEqual(moved, [])
        program = Program("p", ("a",), (("if", ("is", "a", 0), [("loop", ())], [("give", "a")]),))
        self.assertEqual([(tie.one, tie.other) for tie in net_of(program, 1, (1,) * 5).ties],
                         [(0, 3), (0, 4), (3, 3), (4, 1), (2, 1)])

    def test_choices_are_placings(self):
        dice = random.Random(94)
        for program in [GCD, STEPS, ADD, HOLD] + programs(94, 16):
            graph = graph_of(program)
            for registers in range(3):
                prices = random_prices(program, dice)
                try:
                    net = net_of(program, registers, prices)
                except TooMany:
                    continue
                rows = [stands(program, registers, point) for point in range(graph.points)]
                self.assertEqual(net.states, tuple(len(row) for row in rows))
                self.assertEqual([(tie.one, tie.other) for tie in net.ties], [(edge.start, edge.end) for edge in graph.edges])
                for _ in range(2):
                    choice = [dice.randrange(len(row)) for row in rows]
                    placing = [row[state] for row, state in zip(rows, choice)]
                    self.assertEqual(sum_of(net, choice), cost(program, prices, placing))
                    for tie, price, index in zip(net.ties, prices, range(len(prices))):
                        if tie.one != tie.other:
                            self.assertEqual(tie.costs[choice[tie.one]][choice[tie.other]],
                                             price * pieces(program, placing, index))
                        self.assertNotIn(None, [item for row in tie.costs for item in row])

    def test_too_many_stands(self):
        # Two points of k names each stand in one lot, beside points of one stand.
        block = [("set", "c", ("plus", "a", "b")), ("give", "c")]
        program = Program("p", ("a", "b"), block)
        net_of(program, 5, (1, 1, 1))
        # One point has all stands: 1 + 2 r + r (r - 1) of them beside 1 + r.
        for registers in (0, 1, 2, 5, 26, 27, 30):
            many = (1 + 2 * registers + registers * (registers - 1)) * (1 + registers)
            if many <= 20000:
                self.assertEqual(net_of(program, registers, (0, 0, 0)).states, (many // (1 + registers), 1, 1, 1 + registers))
            else:
                self.refused(TooMany, {"what": "stands", "limit": 20000}, net_of, program, registers, (0, 0, 0))
        self.refused(TooMany, {"what": "stands", "limit": 20000}, net_of, program, 10 ** 25, (0, 0, 0))

    def test_just_at_the_limit_and_just_above_it(self):
        # One point wants one name, so it has registers + 1 stands, and so has the next one.
        program = program_of("program p of a\ngive a\nend")
        self.assertEqual(net_of(program, 19999, (1, 1)).states, (20000, 1, 1))
        self.refused(TooMany, {"what": "stands", "limit": 20000}, net_of, program, 20000, (1, 1))
        self.refused(TooMany, {"what": "stands", "limit": 20000}, net_of, program, 10 ** 25, (1, 1))

    def test_the_products_of_all_lots(self):
        refused = 0
        for program in [GCD, STEPS, HOLD] + programs(95, 40):
            names = wanted(graph_of(program))
            prices = (1,) * len(graph_of(program).edges)
            for registers in (1, 3, 4, 6, 10):
                numbers = [many_stands(len(row), registers) for row in names]
                most = max(math.prod(numbers[point] for point in lot.points) for lot in lots_of(program))
                if most > 20000:
                    refused += 1
                    self.refused(TooMany, {"what": "stands", "limit": 20000}, net_of, program, registers, prices)
                elif most < 3000:
                    self.assertEqual(net_of(program, registers, prices).states, tuple(numbers))
        self.assertGreater(refused, 30)

    def test_stands_are_counted_and_not_listed(self):
        names = ["a", "b", "c", "d", "e", "f", "g"]
        program = Program("p", (), [("set", "h", ("plus", one, other)) for one, other in zip(names, names[1:] + names[:1])])
        self.assertEqual(len(wanted(graph_of(program))[0]), 7)
        prices = (1,) * len(graph_of(program).edges)
        for registers in (4, 5, 100, 10 ** 100):
            self.refused(TooMany, {"what": "stands", "limit": 20000}, net_of, program, registers, prices)

    def test_errors_in_their_order(self):
        for registers in (None, -1, True, False, "1", 1.0, (1,)):
            self.refused(BadNumber, {"what": "registers", "value": registers}, net_of, ADD, registers, None)
        for prices in OTHERS + ((1, 2), (1, 2, 3, 4), (1, 2, -1), (1, True, 3), (1, "2", 3), [[1, 2, 3]], {1: 1, 2: 2, 3: 3}):
            self.refused_with(BadRow, "value", prices, net_of, ADD, 10 ** 25, prices)


if __name__ == "__main__":
    unittest.main()
