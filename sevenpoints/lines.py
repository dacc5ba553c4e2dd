"""Lines: code as a row of lines, one behind another, with jumps from line to line."""

from sevenpoints.errors import BadNumber, BadRow
from sevenpoints.machine import is_begin, with_worths, worth_of
from sevenpoints.meaning import Done, pair_holds, value_told
from sevenpoints.moves import check_spare, is_instruction, row_of_step
from sevenpoints.places import is_machine_operand, is_machine_pair, places_of_step
from sevenpoints.rows import as_row, is_between, is_natural
from sevenpoints.writes import Terms, writes_of


class Lines:
    """Code as lines: a row of lines, and for each point the number of the line that stands for it, or None."""

    def __init__(self, rows, marks):
        self.rows = as_row(rows)
        self.marks = as_row(marks)

    def __eq__(self, other):
        return isinstance(other, Lines) and self.rows == other.rows and self.marks == other.marks


def run_lines(lines, begin, most):
    """Done if the run of lines is done within so many lines, otherwise None."""
    if not is_begin(begin):
        raise BadRow(begin)
    if not is_natural(most):
        raise BadNumber("most", most)
    state = {pair[0]: pair[1] for pair in begin}
    at = 0
    gone = 0
    while gone < most and at < len(lines.rows):
        line = lines.rows[at]
        gone += 1
        if line[0] == "give":
            return Done(worth_of(line[1], state), gone)
        if line[0] == "set":
            state[line[1]] = value_told(with_worths(line[2], state), {})
        if line[0] == "jump" or line[0] == "when" and pair_holds(with_worths(line[1], state), {}):
            at = line[-1]
        else:
            at += 1
    return None


def places_of_code(code):
    """All places in a code, in any order and perhaps several times."""
    return [place for step in code.steps for place in places_of_step(step)]


def points_of(code):
    """How many points a code has, with all integers from 0 to the greatest one."""
    return max([-1] + [max(step.start, step.end) for step in code.steps]) + 1


def is_line(value, many):
    """Whether a value is a line of a row of so many lines."""
    if is_instruction(value):
        return True
    if not isinstance(value, tuple) or len(value) < 2 or not isinstance(value[0], str):
        return False
    if value[0] == "when":
        return len(value) == 3 and is_machine_pair(value[1]) and is_between(value[2], 0, many - 1)
    if value[0] == "jump":
        return len(value) == 2 and is_between(value[1], 0, many - 1)
    return value[0] == "give" and len(value) == 2 and is_machine_operand(value[1])


def is_mark(point, value, many):
    """Whether a value may stand among the marks for a point, if there are so many lines."""
    if point == 1:
        return value is None
    return is_between(value, 0, many - 1) and (point > 0 or value == 0)


def have_form(code, told):
    """Whether a value is Lines with lines and marks as a code needs them, whatever the lines do."""
    if not isinstance(told, Lines) or not isinstance(told.rows, tuple) or not isinstance(told.marks, tuple):
        return False
    many = len(told.rows)
    if len(told.marks) != points_of(code) or not all([is_line(line, many) for line in told.rows]):
        return False
    return all([is_mark(point, value, many) for point, value in enumerate(told.marks)])


class Tracing:
    """Lines that are gone through for a step: what the places have by Terms, and what they must have at the end."""

    def __init__(self, step, spare):
        self.deed = step.deed
        self.spare = spare
        self.terms = Terms()
        self.needed = self.terms.needed_by(writes_of(step.moves, step.deed))
        self.tested = self.pair_told(step.deed[1]) if step.deed[0] == "test" else None
        self.given = self.terms.of_operand(step.deed[1]) if step.deed[0] == "give" else None

    def pair_told(self, pair):
        """A pair with the numbers of what its operands are."""
        return (pair[0], self.terms.of_operand(pair[1]), self.terms.of_operand(pair[2]))

    def has_moved(self):
        """Whether all that the step writes has been written, and nothing else."""
        return self.terms.have(self.needed, self.spare)

    def gives(self, operand):
        """Whether the step is a give of what an operand is."""
        return self.given is not None and self.terms.of_operand(operand) == self.given

    def is_tested(self, pair):
        """Whether the step has a test of this very pair."""
        return self.tested is not None and self.pair_told(pair) == self.tested

    def line_behind(self, line, at):
        """The number of the line that comes behind a line that is no give and has the number at."""
        if line[0] == "set":
            self.terms.put(line[1], line[2])
        goes = line[0] == "jump" or line[0] == "when" and self.deed[2]
        return line[-1] if goes else at + 1


def are_right_for(step, spare, told):
    """Whether lines that have the form take a step rightly."""
    tracing = Tracing(step, spare)
    at = told.marks[step.start]
    goal = None if step.deed[0] == "give" else told.marks[step.end]
    if at == goal and step.end > step.start:
        return tracing.has_moved()
    # What comes next hangs on the line alone, so in more lines than there are one comes again, and again and again.
    for _ in told.rows:
        line = told.rows[at]
        if line[0] == "give":
            return tracing.gives(line[1])
        if line[0] == "when" and not tracing.is_tested(line[1]):
            return False
        at = tracing.line_behind(line, at)
        if at == goal:
            return tracing.has_moved()
        if at == len(told.rows):
            return False
    return False


def is_lines(code, spare, told):
    """Whether a value is Lines that are right for a code."""
    check_spare(spare, places_of_code(code))
    return have_form(code, told) and all([are_right_for(step, spare, told) for step in code.steps])


def step_lines(step, spare):
    """The lines of a step, a jump with a point in the place of the number of a line."""
    if step.deed[0] == "give":
        return [step.deed]
    return list(row_of_step(step, spare)) + [("jump", step.end)]


def point_lines(steps, spare, first):
    """The lines of the steps that start at a point, from the line first on, the jumps as those of step_lines."""
    tested = [step for step in steps if step.deed[0] == "test"]
    if len(tested) < 2:
        return [line for step in steps for line in step_lines(step, spare)]
    no = [line for step in tested if not step.deed[2] for line in step_lines(step, spare)]
    yes = [line for step in tested if step.deed[2] for line in step_lines(step, spare)]
    return [("when", tested[0].deed[1], first + 1 + len(no))] + no + yes


def lines_of(code, spare):
    """Right Lines for a code that keeps a placing."""
    check_spare(spare, places_of_code(code))
    begun = [[] for _ in range(points_of(code))]
    for step in code.steps:
        begun[step.start].append(step)
    rows = []
    marks = []
    for point, steps in enumerate(begun):
        marks.append(None if point == 1 else len(rows))
        rows.extend(point_lines(steps, spare, len(rows)))
    return Lines([("jump", marks[row[1]]) if row[0] == "jump" else row for row in rows], marks)
