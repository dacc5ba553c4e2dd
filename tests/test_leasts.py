"""[5], [36] to [40]: the least cost of all placings."""

import itertools
import math
import random
import unittest

from sevenpoints.errors import BadNumber, BadRow, TooMany
from sevenpoints.graphs import graph_of
from sevenpoints.leasts import LeastPaper, cost_line, is_least_paper, least_cost, least_paper, least_placing
from sevenpoints.lots import lots_of
from sevenpoints.nets import least_bound
from sevenpoints.placings import cost, is_placing, net_of, stands
from sevenpoints.programs import Program, renamed
from sevenpoints.texts import program_of
from sevenpoints.wants import crowd
from tests.checks import Case
from tests.samples import EMPTY, FOREVER, GCD, STEPS, programs
from tests.test_placings import ADD, HOLD, all_placings, random_prices

OTHERS = (None, 0, True, "", "ab", b"", 1.5, {}, {1}, [], (), ((),), [()], (None,), object(), LeastPaper, EMPTY)

# Two names that take turns: with one register one of them lies in its cell each time.
TURNS = program_of("""program turns of a b
c = a plus b
if c below a
  a = c
end
give a
end
""")


def edges_of(program):
    """How many edges the graph of a program has."""
    return len(graph_of(program).edges)


def small_programs(seed, many):
    """Programs of which all placings with two registers can be looked at."""
    found = []
    for program in programs(seed, many):
        points = range(graph_of(program).points)
        if math.prod(len(stands(program, 2, point)) for point in points) <= 600:
            found.append(program)
    return found


def can_be_asked(program, registers):
    """Whether the stands of a program are not too many."""
    try:
        net_of(program, registers, (0,) * edges_of(program))
    except TooMany:
        return False
    return True


class Least(Case):

    def test_against_all_placings(self):
        dice = random.Random(101)
        checked = 0
        for program in [ADD, EMPTY, FOREVER] + small_programs(101, 90):
            for registers in range(3):
                for prices in ([1] * edges_of(program), random_prices(program, dice)):
                    costs = [cost(program, prices, placing) for placing in all_placings(program, registers)]
                    self.assertEqual(least_cost(program, registers, prices), min(costs))
                    checked += len(costs) > 20
                    told = least_placing(program, registers, tuple(prices))
                    self.assertIs(is_placing(program, registers, told), True)
                    self.assertEqual(cost(program, prices, told), min(costs))
        self.assertGreater(checked, 20)

    def test_by_hand(self):
        self.assertEqual(least_cost(GCD, 0, [1] * 10), 16)
        # c is written and read, and so are both inputs, from their cells.
        self.assertEqual([least_cost(ADD, registers, (1, 10, 100)) for registers in range(4)], [13, 1, 0, 0])
        self.assertEqual([least_cost(ADD, registers, (1, 0, 100)) for registers in range(4)], [3, 1, 0, 0])
        self.assertEqual([least_cost(EMPTY, registers, (3, 4)) for registers in (0, 1, 10 ** 20)], [0, 0, 0])

    def test_a_name_moves_only_where_that_pays(self):
        prices = [0] * edges_of(TURNS)
        self.assertEqual(least_cost(TURNS, 0, prices), 0)
        for index in range(len(prices)):
            one = prices[:index] + [10 ** 20 - 1] + prices[index + 1:]
            for registers in range(3):
                told = least_placing(TURNS, registers, one)
                self.assertEqual(cost(TURNS, one, told), least_cost(TURNS, registers, one))

    def test_no_random_placing_costs_less(self):
        dice = random.Random(102)
        for program in [GCD, STEPS, HOLD, TURNS] + programs(102, 16):
            for registers in range(4):
                if not can_be_asked(program, registers):
                    continue
                prices = random_prices(program, dice)
                least = least_cost(program, registers, prices)
                rows = [stands(program, registers, point) for point in range(graph_of(program).points)]
                for _ in range(6):
                    self.assertGreaterEqual(cost(program, prices, [dice.choice(row) for row in rows]), least)
                told = least_placing(program, registers, prices)
                self.assertEqual(cost(program, prices, told), least)
                # One stand exchanged for any other one of its point costs no less.
                point = dice.randrange(len(rows))
                for stand in rows[point][:20]:
                    self.assertGreaterEqual(cost(program, prices, told[:point] + (stand,) + told[point + 1:]), least)

    def test_many_registers(self):
        program = program_of("program p of a\ngive a\nend")
        self.assertEqual(least_cost(program, 19999, (3, 1)), 0)
        self.refused(TooMany, {"what": "stands", "limit": 20000}, least_cost, program, 20000, (3, 1))


class Errors(Case):

    CALLS = ((least_cost, ()), (least_placing, ()), (least_paper, ()), (is_least_paper, (None,)))

    def test_errors_in_their_order(self):
        for call, more in self.CALLS:
            for registers in (None, -1, True, False, "1", 1.0, (1,)):
                self.refused(BadNumber, {"what": "registers", "value": registers}, call, ADD, registers, None, *more)
            for prices in (None, 3, "abc", (), (1, 2), (1, 2, 3, 4), (1, 2, -1), (1, True, 3), (1, "2", 3), {1: 1, 2: 2, 3: 3}):
                self.refused_with(BadRow, "value", prices, call, ADD, 10 ** 25, prices, *more)
            self.refused(TooMany, {"what": "stands", "limit": 20000}, call, ADD, 10 ** 25, (0, 0, 0), *more)
            self.refused(TooMany, {"what": "stands", "limit": 20000}, call, ADD, 27, [0, 0, 0], *more)
            call(ADD, 2, [0, 0, 0], *more)

    def test_errors_of_the_line(self):
        for most in (None, -1, True, False, "1", 1.0, (1,)):
            self.refused(BadNumber, {"what": "registers", "value": most}, cost_line, ADD, None, most)
        for prices in (None, 3, "abc", (), (1, 2), (1, 2, 3, 4), (1, 2, -1), (1, True, 3), (1, "2", 3), {1: 1, 2: 2, 3: 3}):
            for most in (0, 3, 10 ** 25):
                self.refused_with(BadRow, "value", prices, cost_line, ADD, prices, most)
        self.refused(TooMany, {"what": "stands", "limit": 20000}, cost_line, ADD, (0, 0, 0), 10 ** 25)
        for most in (27, 30):
            self.refused(TooMany, {"what": "stands", "limit": 20000}, cost_line, ADD, (0, 0, 0), most)
            self.refused(TooMany, {"what": "stands", "limit": 20000}, cost_line, ADD, (5, 5, 5), most)


class Papers(Case):

    def test_papers_keep_what_they_are_given(self):
        told = LeastPaper([[0, [1]], "x"], [[1], None])
        self.assertEqual((told.placing, told.bound), (((0, (1,)), "x"), ((1,), None)))
        other = LeastPaper(((0, (1,)), "x"), ((1,), None))
        self.assertEqual(told, told)
        # The document tells no == of papers.
        self.assertNotEqual(told, other)

    def test_a_told_paper_is_right(self):
        dice = random.Random(103)
        for program in [GCD, STEPS, ADD, HOLD, TURNS, EMPTY] + programs(103, 16):
            for registers in range(3):
                if not can_be_asked(program, registers):
                    continue
                prices = random_prices(program, dice)
                told = least_paper(program, registers, prices)
                self.assertIs(told.__class__, LeastPaper)
                self.assertIs(is_least_paper(program, registers, prices, told), True)
                self.assertEqual(cost(program, prices, told.placing), least_cost(program, registers, prices))
                self.assertEqual(told.bound[0], (least_cost(program, registers, prices),))

    def test_other_placings_and_bounds(self):
        prices = (1, 10, 100)
        right = least_paper(ADD, 1, prices)
        bound = least_bound(net_of(ADD, 1, prices), lots_of(ADD))
        for placing in all_placings(ADD, 1):
            paper = LeastPaper(placing, bound)
            self.assertIs(is_least_paper(ADD, 1, prices, paper), cost(ADD, prices, placing) == 1)
            self.assertIs(is_least_paper(ADD, 1, prices, LeastPaper([list(stand) for stand in placing], list(bound))),
                          cost(ADD, prices, placing) == 1)
            self.assertIs(is_least_paper(ADD, 0, prices, paper), False)
        for index, table in enumerate(bound):
            for at, entry in enumerate(table):
                for other in (entry + 1, entry - 1, None, True, str(entry)):
                    changed = bound[:index] + (table[:at] + (other,) + table[at + 1:],) + bound[index + 1:]
                    told = is_least_paper(ADD, 1, prices, LeastPaper(right.placing, changed))
                    # An entry may only be less, and only where what stands above it does not need it.
                    if told:
                        self.assertTrue(index > 0 and other == entry - 1 and other is not True)
        self.assertIs(is_least_paper(ADD, 1, prices, LeastPaper(right.placing, bound)), True)
        self.assertIs(is_least_paper(ADD, 1, (1, 10, 101), right), True)
        self.assertIs(is_least_paper(ADD, 1, (2, 10, 100), right), False)
        self.assertIs(is_least_paper(TURNS, 1, [1] * edges_of(TURNS), right), False)

    def test_a_dear_placing_with_a_low_bound_is_no_paper(self):
        prices = (1, 10, 100)
        bound = least_bound(net_of(ADD, 2, prices), lots_of(ADD))
        lower = ((-5,),) + bound[1:]
        for placing in all_placings(ADD, 2):
            self.assertIs(is_least_paper(ADD, 2, prices, LeastPaper(placing, bound)), cost(ADD, prices, placing) == 0)
            self.assertIs(is_least_paper(ADD, 2, prices, LeastPaper(placing, lower)), False)

    def test_other_values(self):
        prices = (1, 10, 100)
        right = least_paper(ADD, 1, prices)
        for told in OTHERS + ((right.placing, right.bound), [right], "paper"):
            self.assertIs(is_least_paper(ADD, 1, prices, told), False)
            self.assertIs(is_least_paper(ADD, 1, prices, LeastPaper(told, right.bound)), False)
            self.assertIs(is_least_paper(ADD, 1, prices, LeastPaper(right.placing, told)), False)
        for stand in ((0, 0), (1, None), (True, None), (0,), (None, 0, None), None, "ab"):
            self.assertIs(is_least_paper(ADD, 1, prices, LeastPaper((stand,) + right.placing[1:], right.bound)), False)
        self.assertIs(is_least_paper(ADD, 1, prices, right), True)


class Lines(Case):

    def test_lines(self):
        self.assertEqual(cost_line(ADD, (1, 10, 100), 4), (13, 1, 0, 0, 0))
        self.assertEqual(cost_line(GCD, [1] * 10, 3), (16, 8, 1, 0))
        self.assertEqual(cost_line(GCD, [1] * 10, 0), (16,))
        self.assertEqual(cost_line(EMPTY, (1, 1), 6), (0,) * 7)

    def test_they_never_rise_and_come_to_0(self):
        dice = random.Random(104)
        ended = 0
        for program in [STEPS, HOLD, TURNS] + programs(104, 30):
            prices = random_prices(program, dice)
            most = max(registers for registers in range(5) if registers == 0 or can_be_asked(program, registers))
            told = cost_line(program, prices, most)
            self.assertEqual(told, tuple(least_cost(program, registers, prices) for registers in range(most + 1)))
            self.assertTrue(all(one >= other for one, other in itertools.pairwise(told)))
            for registers, least in enumerate(told):
                if registers >= len(program.names()):
                    self.assertEqual(least, 0)
                    ended += 1
            if crowd(graph_of(program)) == 0:
                self.assertEqual(told[0], 0)
        self.assertGreater(ended, 10)

    def test_with_no_register_each_name_lies_in_its_cell(self):
        for program in [GCD, STEPS, TURNS] + programs(105, 10):
            cells = [stands(program, 0, point)[0] for point in range(graph_of(program).points)]
            prices = random_prices(program, random.Random(105))
            self.assertEqual(least_cost(program, 0, prices), cost(program, prices, cells))


class Renamed(unittest.TestCase):

    def test_renamed_programs_have_the_same_least_cost(self):
        dice = random.Random(106)
        pairs = (("a", "z9"), ("b", "a"), ("c", "m"), ("t", "aa"), ("set", "b"), ("x1", "set"), ("as", "c"), ("s", "x"))
        for program in [GCD, STEPS, TURNS, HOLD] + programs(106, 24):
            other = renamed(program, pairs)
            prices = random_prices(program, dice)
            for registers in range(3):
                if can_be_asked(program, registers):
                    self.assertEqual(least_cost(program, registers, prices), least_cost(other, registers, prices))

    def test_the_order_of_the_names_may_change(self):
        program = Program("p", ("a", "b"), (("set", "a", ("plus", "a", "b")), ("give", "a")))
        other = renamed(program, (("a", "b"), ("b", "a")))
        self.assertEqual(other.inputs, ("b", "a"))
        for prices in ((5, 3, 0), (1, 9, 9)):
            self.assertEqual(cost_line(program, prices, 3), cost_line(other, prices, 3))


if __name__ == "__main__":
    unittest.main()
