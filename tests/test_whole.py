"""Over the whole program: one value by run, by code, by lines, by the settled program, and by what is read back."""

import random
import unittest

from sevenpoints.codes import begin_of, best_placing, code_of, is_code
from sevenpoints.codetexts import code_of_text, code_text
from sevenpoints.desk import Desk
from sevenpoints.errors import TooMany
from sevenpoints.graphs import graph_of, walked
from sevenpoints.journal import replayed
from sevenpoints.leasts import least_cost, least_placing
from sevenpoints.lines import is_lines, lines_of, run_lines
from sevenpoints.machine import code_cost, pieces_after, run_code
from sevenpoints.meaning import Done, run
from sevenpoints.placings import cost
from sevenpoints.changes import settled
from sevenpoints.tallies import counts
from sevenpoints.texts import program_of, program_text
from tests.checks import Case
from tests.samples import EMPTY, FOREVER, GCD, STEPS, programs, rows_for

TURNS = 60


class Whole(Case):

    def values(self, program, rows):
        """The value of each run, None if it is not done within the turns."""
        return [None if told is None else told.value for told in (run(program, row, TURNS) for row in rows)]

    def test_one_value(self):
        dice = random.Random(140)
        done = 0
        for program in [EMPTY, FOREVER, GCD, STEPS] + programs(140, 120):
            rows = rows_for(program, 140, 4)
            values = self.values(program, rows)
            self.assertEqual(self.values(program_of(program_text(program)), rows), values)
            for row, value in zip(rows, values):
                held = tuple(zip(program.inputs, row))
                self.assertEqual(walked(graph_of(program), held, TURNS), run(program, row, TURNS))
                if value is not None:
                    self.assertEqual(run(settled(program), row, TURNS).value, value)
                    done += 1
            registers = dice.randint(0, 3)
            try:
                placing = best_placing(program, registers, rows, TURNS)
            except TooMany:
                continue
            prices = counts(program, rows, TURNS)
            code = code_of(program, placing)
            least = least_cost(program, registers, prices)
            self.assertEqual([cost(program, prices, placing), code_cost(code, prices)], [least, least])
            self.assertEqual(sum(pieces_after(code, begin_of(program, placing, row), TURNS) for row in rows), least)
            self.assertIs(is_code(program, placing, code), True)
            self.assertEqual(code_of_text(code_text(code)), code)
            lines = lines_of(code, "a spare")
            self.assertIs(is_lines(code, "a spare", lines), True)
            for row, value in zip(rows, values):
                begin = begin_of(program, placing, row)
                ran = run_code(code_of_text(code_text(code)), begin, TURNS)
                if value is None:
                    self.assertIsNone(ran)
                    continue
                self.assertEqual(Done(ran.value, ran.turns), run(program, row, TURNS))
                self.assertEqual(run_lines(lines, begin, TURNS * len(lines.rows)).value, value)
        self.assertGreater(done, 200)

    def test_settled_programs_by_code(self):
        for program in programs(141, 60):
            told = settled(program)
            prices = [1] * len(graph_of(told).edges)
            try:
                placing = least_placing(told, 2, prices)
            except TooMany:
                continue
            code = code_of(told, placing)
            for row in rows_for(program, 141, 3):
                ran, value = run_code(code, begin_of(told, placing, row), TURNS), run(program, row, TURNS)
                if value is not None:
                    self.assertEqual(ran.value, value.value)

    def test_a_desk_keeps_what_programs_mean(self):
        for seed, program in enumerate(programs(142, 40)):
            rows = rows_for(program, 142, 3)
            values = self.values(program, rows)
            desk = Desk()
            desk.put("a", program_text(program))
            desk.put("b", desk.text("a"))
            desk.change("b", "settled")
            desk.keep("a like b")
            desk.attempt(lambda one: (one.change("a", "reckoned"), one.rename("a", "c")))
            other = replayed(desk.journal())
            self.assertEqual(other.promises(), ("c like b",))
            for name in other.names():
                self.assertEqual(other.program(name), desk.program(name))
                told = self.values(other.program(name), rows)
                self.assertEqual([one for one, value in zip(told, values) if value is not None], [value for value in values if value is not None])


if __name__ == "__main__":
    unittest.main()
