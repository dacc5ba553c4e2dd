"""Places of the machine, registers and cells, and the machine operands that read them.

A machine operand is an integer, or ("at", place).
"""

from sevenpoints.programs import PAIR_WORDS
from sevenpoints.rows import each_once, is_integer, is_natural


def is_place(value):
    """Whether a value is a place: a register, told as its number, or the cell of a name."""
    return isinstance(value, str) or is_natural(value)


def is_cell(place):
    """Whether a place is a cell."""
    return isinstance(place, str)


def in_order(places):
    """Some places, registers ahead of cells, both ascending."""
    registers = sorted([place for place in places if not is_cell(place)])
    return registers + sorted([place for place in places if is_cell(place)])


def is_place_pair(value):
    """Whether a value is a tuple (to, from) of places."""
    return isinstance(value, tuple) and len(value) == 2 and is_place(value[0]) and is_place(value[1])


def is_machine_operand(value):
    """Whether a value is a machine operand."""
    if isinstance(value, tuple):
        return len(value) == 2 and isinstance(value[0], str) and value[0] == "at" and is_place(value[1])
    return is_integer(value)


def is_machine_value(value):
    """Whether a value is a machine value."""
    if not isinstance(value, tuple) or len(value) not in (2, 3) or not isinstance(value[0], str):
        return False
    if not all([is_machine_operand(operand) for operand in value[1:]]):
        return False
    if len(value) == 2:
        return value[0] == "as"
    return value[0] in ("plus", "less") or value[0] == "times" and is_integer(value[2])


def is_machine_pair(value):
    """Whether a value is a machine pair."""
    if not isinstance(value, tuple) or len(value) != 3 or not isinstance(value[0], str):
        return False
    return value[0] in PAIR_WORDS and is_machine_operand(value[1]) and is_machine_operand(value[2])


def places_at(operands):
    """The unlike places that some machine operands read, in their order."""
    return each_once([operand[1] for operand in operands if isinstance(operand, tuple)])


def places_read(deed):
    """The unlike places that the deed of a step reads, in their order."""
    if deed[0] == "set":
        return places_at(deed[2][1:])
    if deed[0] == "test":
        return places_at(deed[1][1:])
    return places_at(deed[1:])


def place_set(deed):
    """The place that the deed of a step sets, None if it sets none."""
    return deed[1] if deed[0] == "set" else None


def places_of_step(step):
    """All places in a step, in any order and perhaps several times."""
    told = [place for move in step.moves for place in move] + list(places_read(step.deed))
    changed = place_set(step.deed)
    return told if changed is None else told + [changed]
