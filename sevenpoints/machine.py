"""The machine: steps from point to point, code, and how it runs."""

from sevenpoints.errors import BadRow
from sevenpoints.meaning import check_turns, pair_holds, value_told
from sevenpoints.places import in_order, is_cell, is_place, place_set, places_read
from sevenpoints.placings import check_prices
from sevenpoints.rows import as_row, each_once, is_integer, is_row


class Step:
    """A step: the point where it starts, its deed, its moves (to, from), and the point where it ends."""

    def __init__(self, start, deed, moves, end):
        self.start = as_row(start)
        self.deed = as_row(deed)
        self.moves = as_row(moves)
        self.end = as_row(end)

    def __eq__(self, other):
        return (isinstance(other, Step) and self.start == other.start and self.deed == other.deed
                and self.moves == other.moves and self.end == other.end)


class Code:
    """Code: a row of steps."""

    def __init__(self, steps):
        self.steps = as_row(steps)

    def __eq__(self, other):
        return isinstance(other, Code) and self.steps == other.steps


class Ran:
    """How a run of code ends: its value, the number of its turns, and that of the pieces of their steps."""

    def __init__(self, value, turns, pieces):
        self.value = as_row(value)
        self.turns = as_row(turns)
        self.pieces = as_row(pieces)

    def __eq__(self, other):
        return (isinstance(other, Ran) and self.value == other.value
                and self.turns == other.turns and self.pieces == other.pieces)


def worth_of(operand, state):
    """What a machine operand is; places that the state does not tell have 0."""
    return state.get(operand[1], 0) if isinstance(operand, tuple) else operand


def with_worths(row, state):
    """A machine value or pair with integers for its operands."""
    return (row[0],) + tuple([worth_of(operand, state) for operand in row[1:]])


class Machine:
    """A run of code: the point where it is, what the places have, its turns and pieces so far, its value if done."""

    def __init__(self, code, begin):
        self.begun = {}
        for step in code.steps:
            self.begun.setdefault(step.start, []).append(step)
        self.state = {pair[0]: pair[1] for pair in begin}
        self.point = 0
        self.turns = 0
        self.pieces = 0
        self.result = None

    def go(self, turns):
        """Do so many turns, fewer if the run is done or stuck before."""
        while self.result is None and self.turns < turns:
            ahead = [step for step in self.begun.get(self.point, []) if self.lets(step.deed)]
            if not ahead:
                return
            self.do(ahead[0])

    def lets(self, deed):
        """Whether a step with this deed can be done now."""
        return deed[0] != "test" or pair_holds(with_worths(deed[1], self.state), {}) == deed[2]

    def do(self, step):
        """Do one turn."""
        held = dict(self.state)
        for to, source in step.moves:
            self.state[to] = held.get(source, 0)
        changed = place_set(step.deed)
        if changed is not None:
            self.state[changed] = value_told(with_worths(step.deed[2], held), {})
        if step.deed[0] == "give":
            self.result = worth_of(step.deed[1], held)
        self.point = step.end
        self.turns += 1
        self.pieces += step_pieces(step)


def is_begin(value):
    """Whether a value is a row of rows (place, integer) with unlike places."""
    if not is_row(value) or not all([is_row(pair) and len(pair) == 2 for pair in value]):
        return False
    if not all([is_place(pair[0]) and is_integer(pair[1]) for pair in value]):
        return False
    return len(each_once([pair[0] for pair in value])) == len(value)


def machine_behind(code, begin, turns):
    """The Machine of code behind so many turns."""
    if not is_begin(begin):
        raise BadRow(begin)
    check_turns(turns)
    machine = Machine(code, begin)
    machine.go(turns)
    return machine


def run_code(code, begin, turns):
    """Ran if the run of code is done within so many turns, otherwise None."""
    machine = machine_behind(code, begin, turns)
    return None if machine.result is None else Ran(machine.result, machine.turns, machine.pieces)


def state_after(code, begin, turns):
    """The point where the run of code is behind so many turns, and what places then have that do not have 0."""
    machine = machine_behind(code, begin, turns)
    told = [place for place in list(machine.state) if machine.state[place] != 0]
    return (machine.point, tuple([(place, machine.state[place]) for place in in_order(told)]))


def pieces_after(code, begin, turns):
    """How many pieces the steps of so many turns have together."""
    return machine_behind(code, begin, turns).pieces


def step_pieces(step):
    """How many pieces a step has."""
    cells = [place for place in places_read(step.deed) if is_cell(place)]
    return len(cells) + len(step.moves) + (1 if is_cell(place_set(step.deed)) else 0)


def code_cost(code, prices):
    """What code costs with a price for each step."""
    check_prices(prices, len(code.steps))
    return sum([price * step_pieces(step) for step, price in zip(code.steps, prices)])
