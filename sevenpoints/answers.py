"""Answers: whether promises are kept, and what shows it if they are not."""

from sevenpoints.changes import settled
from sevenpoints.errors import TooMany
from sevenpoints.graphs import graph_of
from sevenpoints.joining import product_of
from sevenpoints.leasts import least_paper
from sevenpoints.meaning import unlike, value_within
from sevenpoints.wants import way_to
from sevenpoints.webs import fewest_still

MOST_ROWS = 200


def input_rows(program, low, high):
    """All rows of inputs from low to high, ascending."""
    if product_of([high - low + 1] * len(program.inputs)) > MOST_ROWS:
        raise TooMany("rows", MOST_ROWS)
    rows = [()]
    for _ in program.inputs:
        rows = [row + (worth,) for row in rows for worth in range(low, high + 1)]
    return rows


def least_pieces(program, registers):
    """The least number of pieces of all edges together, and a placing that has so many."""
    paper = least_paper(program, registers, (1,) * len(graph_of(program).edges))
    return paper.bound[0][0], paper.placing


def shown(holds, witness):
    """Whether a promise is kept, and its witness if it is not."""
    return (True, None) if holds else (False, witness)


def with_answer(promise):
    """The answer to a promise with the word with."""
    registers, word, many = promise.told
    least, placing = least_pieces(promise.about[0].held, registers)
    if word == "most":
        return shown(least <= many, least)
    return shown(least >= many, placing)


def as_answer(promise):
    """The answer to a promise with the word as."""
    one, other = [item.held for item in promise.about]
    low, high, turns = promise.told
    rows = input_rows(one, low, high)
    if len(one.inputs) != len(other.inputs):
        return shown(False, None)
    row = unlike(one, other, rows, turns)
    return shown(row is None, row)


def like_answer(promise):
    """The answer to a promise with the word like."""
    one, other = [settled(item.held) for item in promise.about]
    return shown(one.inputs == other.inputs and one.block == other.block, None)


def answer_to(promise):
    """Whether a promise is kept, and its witness if it is not."""
    program = promise.about[0].held
    if promise.kind == "with":
        return with_answer(promise)
    if promise.kind == "still":
        fewest = fewest_still(program)
        return shown(fewest <= promise.told[0], fewest)
    if promise.kind == "ready":
        way = way_to(graph_of(program), 0, promise.told[0])
        return shown(way is None, way)
    if promise.kind == "gives":
        value, turns, row = promise.told
        told = value_within(program, row, turns)
        return shown(told == value, told)
    return as_answer(promise) if promise.kind == "as" else like_answer(promise)


class Answers:
    """Answers that have been found: what is asked about the same programs again is not found out again."""

    def __init__(self):
        self.known = {}

    def to(self, promise):
        """Whether a promise is kept, and its witness if it is not."""
        key = "\n".join([promise.kind, str(promise.told)] + [item.wording for item in promise.about])
        if key not in self.known:
            self.known[key] = answer_to(promise)
        return self.known[key]
