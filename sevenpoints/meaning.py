"""What programs mean: their runs, turn by turn."""

from sevenpoints.errors import BadNumber, BadRow, Unlike
from sevenpoints.rows import as_row, is_integer, is_natural, is_row


class Done:
    """How a run ends: its value, and the number of its turns."""

    def __init__(self, value, turns):
        self.value = as_row(value)
        self.turns = as_row(turns)

    def __eq__(self, other):
        return isinstance(other, Done) and self.value == other.value and self.turns == other.turns


def operand_value(operand, held):
    """What an operand is; names that held does not tell have 0."""
    return held.get(operand, 0) if isinstance(operand, str) else operand


def value_told(value, held):
    """What the value of a set is, with the values that are held ahead of it."""
    one = operand_value(value[1], held)
    if value[0] == "as":
        return one
    other = operand_value(value[2], held)
    if value[0] == "plus":
        return one + other
    if value[0] == "less":
        return one - other
    return one * other


def pair_holds(pair, held):
    """Whether a compared pair holds."""
    one = operand_value(pair[1], held)
    other = operand_value(pair[2], held)
    if pair[0] == "below":
        return one < other
    if pair[0] == "most":
        return one <= other
    return one == other


def tests_of(condition, held):
    """The deeds of the turns of a condition, and whether it holds."""
    word = condition[0]
    if word == "not":
        told, holds = tests_of(condition[1], held)
        return told, not holds
    if word not in ("and", "or"):
        holds = pair_holds(condition, held)
        return [("test", condition, holds)], holds
    told, holds = tests_of(condition[1], held)
    if holds == (word == "or"):
        return told, holds
    more, holds = tests_of(condition[2], held)
    return told + more, holds


class Running:
    """A run: the values that are held, the deeds so far, and what is to be done, the next of it last."""

    def __init__(self, program, inputs):
        self.held = {name: 0 for name in program.names()}
        for name, worth in zip(program.inputs, inputs):
            self.held[name] = worth
        self.told = []
        self.result = None
        self.due = []
        self.agenda = [("give", 0), ("block", program.block)]

    def go(self, turns):
        """Do so many turns, or all if there are fewer."""
        while self.result is None and len(self.told) < turns:
            while not self.due:
                self.unfold(self.agenda.pop())
            self.do(self.due.pop(0))

    def do(self, deed):
        """Do one turn."""
        self.told.append(deed)
        if deed[0] == "set":
            self.held[deed[1]] = value_told(deed[2], self.held)
        elif deed[0] == "give":
            self.result = operand_value(deed[1], self.held)

    def unfold(self, item):
        """Put the deeds that an item of the agenda begins with among those that are due, and the rest back."""
        word = item[0]
        if word == "again":
            self.unfold_loop(item[1])
        elif word == "block":
            self.unfold_block(item[1])
        elif word == "if":
            self.due, holds = tests_of(item[1], self.held)
            self.agenda.append(("block", item[2] if holds else item[3]))
        elif word in ("while", "loop"):
            self.unfold_loop(item)
        elif word in ("break", "next"):
            self.due = [("skip",)]
            self.leave(word)
        else:
            self.due = [item]

    def unfold_block(self, block):
        """Begin a block."""
        if block:
            self.agenda.extend(block[::-1])
        else:
            self.due = [("skip",)]

    def unfold_loop(self, statement):
        """Begin a while or a loop, anew or for the first time."""
        holds = True
        if statement[0] == "while":
            self.due, holds = tests_of(statement[1], self.held)
        if holds:
            self.agenda.append(("again", statement))
            self.agenda.append(("block", statement[-1]))

    def leave(self, word):
        """Take from the agenda what the innermost while or loop still had to do; with a break, itself, too."""
        while self.agenda[-1][0] != "again":
            self.agenda.pop()
        if word == "break":
            self.agenda.pop()


def is_input_row(program, value):
    """Whether a value is a row of integers, one for each input."""
    return is_row(value) and len(value) == len(program.inputs) and all([is_integer(worth) for worth in value])


def check_rows(program, rows):
    """Raise BadRow for what is no row of rows of inputs."""
    if not is_row(rows) or not all([is_input_row(program, row) for row in rows]):
        raise BadRow(rows)


def check_turns(turns):
    """Raise BadNumber for what is no number of turns."""
    if not is_natural(turns):
        raise BadNumber("turns", turns)


def run_of(program, inputs, turns):
    """The Running of a program behind so many turns."""
    if not is_input_row(program, inputs):
        raise BadRow(inputs)
    check_turns(turns)
    running = Running(program, inputs)
    running.go(turns)
    return running


def run(program, inputs, turns):
    """Done if the run is done within so many turns, otherwise None."""
    running = run_of(program, inputs, turns)
    return None if running.result is None else Done(running.result, len(running.told))


def deeds(program, inputs, turns):
    """The deeds of the first so many turns."""
    return tuple(run_of(program, inputs, turns).told)


def values_after(program, inputs, turns):
    """The values of all names behind so many turns."""
    held = run_of(program, inputs, turns).held
    return tuple([held[name] for name in program.names()])


def value_within(program, inputs, turns):
    """The value with which a run is done within so many turns, None if it is not."""
    return run_of(program, inputs, turns).result


def unlike(one, other, rows, turns):
    """The first row of inputs with which the runs of two programs do not end alike, None if there is none."""
    if len(one.inputs) != len(other.inputs):
        raise Unlike("inputs")
    check_rows(one, rows)
    check_turns(turns)
    for row in rows:
        if value_within(one, row, turns) != value_within(other, row, turns):
            return tuple(row)
    return None
