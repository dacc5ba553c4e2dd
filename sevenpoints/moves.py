"""Moves that are done at once, and what steps write, done one behind another with a spare place."""

from sevenpoints.errors import BadPlace, BadRow
from sevenpoints.places import is_machine_value, is_place, is_place_pair, places_of_step
from sevenpoints.rows import as_row, each_once, is_row
from sevenpoints.writes import (
    does_writes, fewest_writes, move_from, rounds_in, row_of_writes, writes_of,
)


def moves_kept(moves):
    """Moves as a tuple of tuples, BadRow for what is no row of pairs (to, from) with unlike tos."""
    kept = as_row(moves)
    if not is_row(moves) or not all([is_place_pair(move) for move in kept]):
        raise BadRow(moves)
    tos = [move[0] for move in kept]
    if len(each_once(tos)) < len(tos):
        raise BadRow(moves)
    return kept


def check_spare(spare, places):
    """Raise BadPlace for what is no place, or is one of these."""
    if not is_place(spare) or spare in places:
        raise BadPlace(spare)


def writes_of_moves(moves, spare):
    """The writes of moves, once the spare place is none of theirs."""
    kept = moves_kept(moves)
    check_spare(spare, [place for move in kept for place in move])
    return writes_of(kept, ("skip",))


def closed_rounds(moves):
    """The closed rounds of moves, each from its least place on."""
    return rounds_in(moves_kept(moves))


def fewest_in_row(moves):
    """How many pairs a shortest row has that does the moves."""
    return fewest_writes(writes_of(moves_kept(moves), ("skip",)))


def in_a_row(moves, spare):
    """A shortest row of pairs that does the moves."""
    row = row_of_writes(writes_of_moves(moves, spare), spare)
    return tuple([(place, value[1][1]) for place, value in row])


def is_in_row(moves, spare, told):
    """Whether a value is a tuple of pairs that does the moves."""
    writes = writes_of_moves(moves, spare)
    if not isinstance(told, tuple) or not all([is_place_pair(move) for move in told]):
        return False
    return does_writes(writes, spare, [(to, move_from(place)) for to, place in told])


def fewest_of_step(step):
    """How many instructions a shortest row has that does the writes of a step."""
    return fewest_writes(writes_of(step.moves, step.deed))


def row_of_step(step, spare):
    """A shortest row of instructions that does the writes of a step."""
    check_spare(spare, places_of_step(step))
    row = row_of_writes(writes_of(step.moves, step.deed), spare)
    return tuple([("set", place, value) for place, value in row])


def is_instruction(value):
    """Whether a value is an instruction."""
    if not isinstance(value, tuple) or len(value) != 3 or not isinstance(value[0], str) or value[0] != "set":
        return False
    return is_place(value[1]) and is_machine_value(value[2])


def does_step(step, spare, told):
    """Whether a value is a tuple of instructions that does the writes of a step."""
    check_spare(spare, places_of_step(step))
    if not isinstance(told, tuple) or not all([is_instruction(instruction) for instruction in told]):
        return False
    row = [(instruction[1], instruction[2]) for instruction in told]
    return does_writes(writes_of(step.moves, step.deed), spare, row)
