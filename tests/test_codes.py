"""[48] to [50]: the code of a placing, code that keeps it, and the best placing for some runs."""

import random
import unittest

from sevenpoints.codes import begin_of, best_placing, code_of, is_code
from sevenpoints.errors import BadNumber, BadRow, TooMany
from sevenpoints.graphs import graph_of, walk_of
from sevenpoints.leasts import least_cost
from sevenpoints.machine import Code, Ran, Step, code_cost, pieces_after, run_code, state_after, step_pieces
from sevenpoints.meaning import run
from sevenpoints.placings import cost, is_placing, pieces, stands
from sevenpoints.programs import Program
from sevenpoints.tallies import counts
from sevenpoints.texts import program_of
from sevenpoints.wants import wanted
from tests.checks import Case
from tests.samples import EMPTY, GCD, STEPS, programs, rows_for
from tests.test_leasts import TURNS, can_be_asked
from tests.test_placings import ADD, HOLD, OTHERS, all_placings, random_placing, random_prices

SKIP = ("skip",)

# The points of ADD: 0 wants a and b, 3 wants c; its edges lead from 0 to 3, from 3 to 1, from 2 to 1.
PLACING = ((0, None), (), (), (None,))

SWAP = program_of("""program swap of a b c
while a below b
  t = a
  a = b
  b = t plus c
end
give b
end
""")

WRONG = OTHERS + (PLACING[:3], PLACING + ((),), ((0, 0), (), (), (None,)), ((0,), (), (), (None,)), ((True, None), (), (), (None,)),
                  ((-1, None), (), (), (None,)), (("a", None), (), (), (None,)), (None, (), (), (None,)), dict(enumerate(PLACING)))


def at(place):
    """The machine operand that is what a place has."""
    return ("at", place)


class Begin(Case):

    def test_names_in_their_order(self):
        self.assertEqual(begin_of(ADD, ((0, 5), (), (), (0,)), (10, 20)), ((0, 20), (5, 10)))
        self.assertEqual(begin_of(ADD, PLACING, (10, 20)), ((0, 20), ("b", 10)))
        self.assertEqual(begin_of(ADD, [[None, None], [], [], [3]], [10, 20]), (("a", 20), ("b", 10)))
        self.assertEqual(begin_of(EMPTY, ((), (), ()), ()), ())

    def test_names_that_are_no_inputs_have_0(self):
        program = program_of("program p of b\na = a plus b\ngive a\nend")
        self.assertEqual(begin_of(program, ((1, None), (), (), (0,)), (-10 ** 60,)), ((1, 0), ("b", -10 ** 60)))
        # An input that is not wanted at the begin is not told.
        program = program_of("program p of a b\na = 1\ngive b\nend")
        self.assertEqual(begin_of(program, ((7,), (), (), (7,)), (3, 4)), ((7, 4),))

    def test_errors_in_their_order(self):
        for placing in WRONG:
            self.refused_with(BadRow, "value", placing, begin_of, ADD, placing, None)
        for inputs in (None, 3, "ab", (), (1,), (1, 2, 3), (1, True), (1, "2"), (1, 2.0), (1, None), [[1, 2]], {1: 1, 2: 2}):
            self.refused_with(BadRow, "value", inputs, begin_of, ADD, PLACING, inputs)


class Made(Case):

    def test_step_by_step(self):
        told = code_of(ADD, PLACING)
        self.assertEqual(told, Code((Step(0, ("set", "c", ("plus", at(0), at("b"))), (), 3), Step(3, ("give", at("c")), (), 1),
                                     Step(2, ("give", 0), (), 1))))
        self.assertEqual(told, code_of(ADD, [list(stand) for stand in PLACING]))
        self.assertEqual(code_of(ADD, ((5, 0), (), (), (0,))).steps[0], Step(0, ("set", 0, ("plus", at(5), at(0))), (), 3))

    def test_all_kinds_of_deeds(self):
        program = program_of("""program p of a b
            if not a below 3
            a = b times -7
            b = 9
            b = 5 less a
            end
            skip
            give a
            end""")
        edges = graph_of(program).edges
        table = wanted(graph_of(program))
        placing = [tuple(0 if name == "a" else None for name in names) for names in table]
        steps = code_of(program, placing).steps
        self.assertEqual([(step.start, step.end) for step in steps], [(edge.start, edge.end) for edge in edges])
        self.assertEqual([step.deed for step in steps], [
            ("test", ("below", at(0), 3), True), ("test", ("below", at(0), 3), False), ("set", 0, ("times", at("b"), -7)),
            ("set", None, ("as", 9)), ("set", None, ("less", 5, at(0))), SKIP, SKIP, ("give", at(0)), ("give", 0)])
        self.assertEqual([step.moves for step in steps], [()] * 9)

    def test_moves_in_their_order(self):
        program = Program("p", ("a", "b", "c"), (SKIP, ("set", "d", ("plus", "a", "b")), ("set", "d", ("plus", "d", "c")), ("give", "d")))
        self.assertEqual(wanted(graph_of(program)), (("a", "b", "c"), (), (), ("a", "b", "c"), ("c", "d"), ("d",)))
        placing = ((0, 1, None), (), (), (1, 0, 2), (2, None), (5,))
        steps = code_of(program, placing).steps
        self.assertEqual(steps[0], Step(0, SKIP, ((1, 0), (0, 1), (2, "c")), 3))
        self.assertEqual(steps[1], Step(3, ("set", "d", ("plus", at(1), at(0))), (), 4))
        self.assertEqual(steps[2], Step(4, ("set", 5, ("plus", at("d"), at(2))), (), 5))
        placing = ((0, 1, None), (), (), (None, 1, None), (None, 1), (1,))
        steps = code_of(program, placing).steps
        self.assertEqual(steps[0], Step(0, SKIP, (("a", 0),), 3))
        self.assertEqual(steps[1], Step(3, ("set", 1, ("plus", at("a"), at(1))), (), 4))

    def test_wrong_placings(self):
        for placing in WRONG:
            self.refused_with(BadRow, "value", placing, code_of, ADD, placing)
            self.refused_with(BadRow, "value", placing, is_code, ADD, placing, None)

    def test_as_many_pieces_as_the_edges(self):
        dice = random.Random(121)
        for program in [GCD, STEPS, ADD, HOLD, TURNS, SWAP] + programs(121, 10):
            for registers in range(3):
                placing = random_placing(program, registers, dice)
                prices = random_prices(program, dice)
                code = code_of(program, placing)
                self.assertEqual(code_cost(code, prices), cost(program, prices, placing))
                for index in range(0, len(prices), 5):
                    self.assertEqual(step_pieces(code.steps[index]), pieces(program, placing, index))


def with_step(code, index, **changed):
    """Code with one step exchanged, which differs in what is told."""
    step = code.steps[index]
    parts = {"start": step.start, "deed": step.deed, "moves": step.moves, "end": step.end}
    parts.update(changed)
    return Code(code.steps[:index] + (Step(**parts),) + code.steps[index + 1:])


class Judged(unittest.TestCase):

    def test_the_code_of_a_placing_keeps_it(self):
        dice = random.Random(122)
        for program in [GCD, STEPS, ADD, HOLD, TURNS, SWAP, EMPTY] + programs(122, 16):
            for registers in range(3):
                placing = random_placing(program, registers, dice)
                other = random_placing(program, registers, dice)
                told = code_of(program, placing)
                self.assertIs(is_code(program, placing, told), True)
                self.assertIs(is_code(program, list(placing), Code(list(told.steps))), True)
                if placing != other:
                    self.assertIs(is_code(program, other, told), False)

    # All names lie alike at all points of SWAP but at the point 4, where a and b have changed places.
    PLACES = tuple(tuple({"a": 0, "b": 1, "c": None, "t": 2}[name] if point != 4 else {"a": 1, "b": 0, "c": None, "t": 5}[name]
                         for name in names) for point, names in enumerate(wanted(graph_of(SWAP))))

    def judged(self, right, told):
        self.assertIs(is_code(SWAP, self.PLACES, told), right)

    def test_other_moves_besides(self):
        code = code_of(SWAP, self.PLACES)
        moved = [index for index, step in enumerate(code.steps) if step.moves]
        self.assertTrue(moved)
        for index, step in enumerate(code.steps):
            deed = step.deed[1] if step.deed[0] == "set" else None
            for extra in (("free", "x"), (77, 0), (78, 78), ("", "q")):
                self.judged(True, with_step(code, index, moves=step.moves + (extra,)))
                self.judged(True, with_step(code, index, moves=(extra,) + step.moves))
                self.judged(True, with_step(code, index, moves=step.moves[::-1] + (("y", extra[1]), extra)))
                self.judged(False, with_step(code, index, moves=step.moves + (extra, extra)))
                self.judged(False, with_step(code, index, moves=step.moves + (extra, (extra[0], 5))))
            if deed is not None:
                self.judged(False, with_step(code, index, moves=step.moves + ((deed, 50),)))
                self.judged(False, with_step(code, index, moves=step.moves + ((deed, deed),)))
            for move in step.moves:
                self.judged(False, with_step(code, index, moves=tuple(one for one in step.moves if one != move)))
                self.judged(False, with_step(code, index, moves=step.moves + (move,)))
                self.judged(False, with_step(code, index, moves=tuple((one[0], "w") if one == move else one for one in step.moves)))

    def test_moves_to_the_places_of_names_that_stay(self):
        # c stays in its cell all the time, and is wanted at each point of the loop.
        code = code_of(SWAP, self.PLACES)
        self.judged(True, with_step(code, 0, moves=code.steps[0].moves + (("c", "c"),)))
        self.judged(False, with_step(code, 0, moves=code.steps[0].moves + (("c", 7),)))
        # At the end nothing is wanted, so anything may be moved.
        give = [index for index, step in enumerate(code.steps) if step.deed == ("give", at(1))][0]
        self.judged(True, with_step(code, give, moves=(("c", 7), ("a", "b"), (0, 1), (1, 0))))

    def test_other_starts_deeds_and_ends(self):
        code = code_of(SWAP, self.PLACES)
        for index, step in enumerate(code.steps):
            for point in (None, "0", -1, 9, 0.0, (0,), True, False, step.start + 1, float(step.start)):
                self.judged(False, with_step(code, index, start=point))
            for point in (None, "0", -1, 9, 0.0, (0,), True, False, step.end + 1, float(step.end)):
                self.judged(False, with_step(code, index, end=point))
            for deed in (None, (), SKIP, ("give", 0.0), ("give", False), ("give", at(3)), "skip", 5, ("set", 0, ("as", 1)), step.deed[:-1],
                         step.deed + (0,), (step.deed,), ("drop",) + step.deed[1:], {1: 2}, ("test", step.deed[1:], True)):
                self.judged(False, with_step(code, index, deed=deed))
            self.judged(True, with_step(code, index, deed=list(step.deed)))
        told = code.steps[0].deed
        self.assertEqual(told, ("test", ("below", at(0), at(1)), True))
        for deed in (told[:2] + (1,), told[:2] + (False,), told[:2] + ("True",), ("test", ("most", at(0), at(1)), True),
                     ("test", ("below", at(1), at(0)), True), ("test", ("below", at(False), at(1)), True),
                     ("test", ("below", at(0), at(True)), True), ("test", ("below", at(0), ("is", 1)), True),
                     ("test", ("below", 0, 1), True), ("test", ("below", at("a"), at("b")), True)):
            self.judged(False, with_step(code, 0, deed=deed))

    def test_places_that_are_set(self):
        code = code_of(ADD, PLACING)
        for place in (None, 0, "d", True, ("c",), "C"):
            deed = ("set", place, ("plus", at(0), at("b")))
            self.assertIs(is_code(ADD, PLACING, with_step(code, 0, deed=deed)), False)
        program = program_of("program p of a\nb = a\ngive 1\nend")
        code = code_of(program, ((0,), (), (), ()))
        self.assertIs(is_code(program, ((0,), (), (), ()), code), True)
        for place in (0, "b", False):
            self.assertIs(is_code(program, ((0,), (), (), ()), with_step(code, 0, deed=("set", place, ("as", at(0))))), False)
        # Several moves to places beside a set of None.
        self.assertIs(is_code(program, ((0,), (), (), ()), with_step(code, 0, moves=(("b", 0), (0, "b")))), True)

    def test_other_forms(self):
        code = code_of(ADD, PLACING)
        for moves in (None, 0, "ab", "", {}, {(1, 2): 3}, ((1,),), ((1, 2, 3),), ((-1, 2),), ((1, True),), ((1, None),), ((1.0, 2),),
                      ("ab",), ((1, (2,)),), (None,), (5,), object()):
            self.assertIs(is_code(ADD, PLACING, with_step(code, 1, moves=moves)), False)
        self.assertIs(is_code(ADD, PLACING, with_step(code, 1, moves=[[1, 2]])), True)
        steps = code.steps
        for told in OTHERS + (steps, list(steps), Code(()), Code(steps[:2]), Code(steps + steps[2:]), Code(steps[::-1]), Code(None),
                              Code("abc"), Code({0: 1}), Code((None,) * 3), Code(3), Code(steps[:2] + (None,)), Code((steps,)),
                              Code([(step.start, step.deed, step.moves, step.end) for step in steps]), steps[0]):
            self.assertIs(is_code(ADD, PLACING, told), False)
        self.assertIs(is_code(ADD, PLACING, code), True)

    def test_deep_values(self):
        deep = ()
        for _ in range(5000):
            deep = (deep,)
        code = code_of(ADD, PLACING)
        for told in (with_step(code, 0, deed=deep), with_step(code, 0, start=deep), with_step(code, 0, moves=deep),
                     with_step(code, 0, deed=("set", "c", deep)), Code(deep), deep):
            self.assertIs(is_code(ADD, PLACING, told), False)

    def test_two_names_that_change_places(self):
        program = Program("p", ("a", "b"), (SKIP, ("set", "a", ("less", "a", "b")), ("give", "a")))
        placing = ((0, 1), (), (), (1, 0), (0,))
        code = code_of(program, placing)
        self.assertEqual(code.steps[0].moves, ((1, 0), (0, 1)))
        self.assertIs(is_code(program, placing, with_step(code, 0, moves=((0, 1), (1, 0)))), True)
        for moves in ((), ((1, 0),), ((0, 0), (1, 1)), ((1, 0), (0, 0)), ((0, 1), (1, 0), (1, 0))):
            self.assertIs(is_code(program, placing, with_step(code, 0, moves=moves)), False)
        self.assertEqual(run_code(code, begin_of(program, placing, (9, 2)), 3), Ran(7, 3, 2))


def more_moves(program, placing, dice):
    """Code that keeps a placing, and moves other things besides at random."""
    code = code_of(program, placing)
    for index in range(0, len(code.steps), 4):
        step = code.steps[index]
        to, place = dice.choice((0, 1, 2, 3, 9, "a", "b", "zz")), dice.choice((0, 1, 2, "a", "zz"))
        told = with_step(code, index, moves=((to, place),) + step.moves)
        if is_code(program, placing, told):
            code = told
    return code


class Facts(unittest.TestCase):

    def goes_like_the_walk(self, program, placing, code, inputs):
        """The run of the code is, turn by turn, where the walk is, and has what is wanted in its place."""
        graph = graph_of(program)
        table = wanted(graph)
        begin = begin_of(program, placing, inputs)
        held = dict(zip(program.inputs, inputs))
        for turns in (0, 1, 2, 3, 5, 8, 13, 14, 15, 40):
            gone, value = walk_of(graph, 0, held, turns)
            point = graph.edges[gone[-1]].end if gone else 0
            told, places = state_after(code, begin, turns)
            self.assertEqual(told, point)
            values = dict(held)
            for index in gone:
                deed = graph.edges[index].deed
                if deed[0] == "set":
                    row = [values.get(part, 0) if isinstance(part, str) else part for part in deed[2][1:]] + [0]
                    values[deed[1]] = {"as": row[0], "plus": row[0] + row[1], "less": row[0] - row[1], "times": row[0] * row[1]}[deed[2][0]]
            for name, item in zip(table[point], placing[point]):
                self.assertEqual(dict(places).get(name if item is None else item, 0), values.get(name, 0))
            done = run(program, inputs, turns)
            self.assertEqual(run_code(code, begin, turns),
                             None if done is None else Ran(done.value, done.turns, pieces_after(code, begin, turns)))
            self.assertEqual(done is None, value is None)

    def test_runs_from_the_begin(self):
        dice = random.Random(123)
        for program in [GCD, STEPS, ADD, HOLD, TURNS, SWAP, EMPTY] + programs(123, 12):
            for registers in (0, 1, 3):
                if len(wanted(graph_of(program))[0]) > 4:
                    continue
                placing = random_placing(program, registers, dice)
                for row in rows_for(program, dice.random(), 1):
                    self.goes_like_the_walk(program, placing, code_of(program, placing), row)
                    code = more_moves(program, placing, dice)
                    self.goes_like_the_walk(program, placing, code, row)
                for one, other in zip(code.steps, code_of(program, placing).steps):
                    self.assertGreaterEqual(step_pieces(one), step_pieces(other))


class Best(Case):

    def test_it_has_the_least_cost(self):
        dice = random.Random(124)
        for program in [GCD, STEPS, TURNS, SWAP, HOLD] + programs(124, 16):
            rows = rows_for(program, 125, 3)
            for registers in range(3):
                if not can_be_asked(program, registers):
                    continue
                told = best_placing(program, registers, rows, 60)
                prices = counts(program, rows, 60)
                self.assertIs(is_placing(program, registers, told), True)
                self.assertEqual(cost(program, prices, told), least_cost(program, registers, prices))
                for placing in (told, random_placing(program, registers, dice)):
                    code = code_of(program, placing)
                    told_of = sum(pieces_after(code, begin_of(program, placing, row), 60) for row in rows)
                    self.assertEqual(told_of, cost(program, prices, placing))

    def test_against_all_placings(self):
        rows = [(3, 4), [5, 6]]
        told = best_placing(ADD, 1, rows, 1)
        self.assertEqual(min(sum(pieces_after(code_of(ADD, placing), begin_of(ADD, placing, row), 1) for row in rows)
                             for placing in all_placings(ADD, 1)), cost(ADD, counts(ADD, rows, 1), told))
        self.assertEqual(cost(ADD, counts(ADD, rows, 1), told), 2)
        self.assertIs(is_placing(ADD, 3, best_placing(ADD, 3, [], 0)), True)

    def test_it_hangs_on_the_rows(self):
        # A name that is read in the one branch alone goes into the register where that branch is taken.
        program = program_of("""program p of a b
            while 0 below a
            a = a less 1
            end
            while 0 below b
            b = b less 1
            end
            end""")
        for row in ((9, 0), (0, 9)):
            told = best_placing(program, 1, [row], 400)
            self.assertEqual(cost(program, counts(program, [row], 400), told), 1)
        self.assertEqual(stands(program, 1, 0), ((0, None), (None, 0), (None, None)))

    def test_errors_in_their_order(self):
        for registers in (None, -1, True, False, "1", 1.0, (1,)):
            self.refused(BadNumber, {"what": "registers", "value": registers}, best_placing, ADD, registers, None, None)
        for rows in (None, 3, "ab", ((1,),), ((1, 2), (1, True)), [[1, 2], None], ((1, 2, 3),)):
            self.refused_with(BadRow, "value", rows, best_placing, ADD, 10 ** 25, rows, None)
        for turns in (None, -1, True, "1", 1.0, (1,)):
            self.refused(BadNumber, {"what": "turns", "value": turns}, best_placing, ADD, 10 ** 25, [(1, 2)], turns)
        self.refused(TooMany, {"what": "stands", "limit": 20000}, best_placing, ADD, 10 ** 25, [(1, 2)], 5)


if __name__ == "__main__":
    unittest.main()
