"""Texts of code: a line for each step."""

from sevenpoints.errors import BadText
from sevenpoints.machine import Code, Step
from sevenpoints.places import is_cell, place_set
from sevenpoints.programs import PAIR_WORDS, is_name
from sevenpoints.words import Line, integer_of, lines_in, words_of

REGISTER_SIGN = "#"
GREATEST_INTEGER = 999999999
DEED_WORDS = ("skip", "set", "drop", "test", "give")


def place_text(place):
    """The word of a place."""
    return place if is_cell(place) else REGISTER_SIGN + str(place)


def operand_text(operand):
    """The word of a machine operand."""
    return place_text(operand[1]) if isinstance(operand, tuple) else str(operand)


def row_text(row):
    """The words of a machine value or pair."""
    if row[0] == "as":
        return operand_text(row[1])
    return f"{operand_text(row[1])} {row[0]} {operand_text(row[2])}"


def deed_text(deed):
    """The words of the deed of a step."""
    if deed[0] == "skip":
        return "skip"
    if deed[0] == "give":
        return "give " + operand_text(deed[1])
    if deed[0] == "test":
        return f"test {row_text(deed[1])} " + ("yes" if deed[2] else "no")
    if deed[1] is None:
        return "drop " + row_text(deed[2])
    return f"set {place_text(deed[1])} as {row_text(deed[2])}"


def step_text(step):
    """The words of a step."""
    moves = [f" with {place_text(to)} from {place_text(source)}" for to, source in step.moves]
    return f"{step.start} {deed_text(step.deed)}" + "".join(moves) + f" go {step.end}"


def code_text(code):
    """The text of a code."""
    return "".join([step_text(step) + "\n" for step in code.steps])


def place_of(word):
    """The place that a word tells; None if it tells none."""
    if not word.startswith(REGISTER_SIGN):
        return word if is_name(word) else None
    number = integer_of(word[1:], GREATEST_INTEGER)
    return None if number is None or number < 0 else number


def take_point(line):
    """Read the point that must come next."""
    return line.take_between(0, GREATEST_INTEGER)


def take_place(line, taken):
    """Read the place that must come next, none of those that are taken."""
    place = place_of(line.next_word())
    if place is None or place in taken:
        line.refuse()
    line.take()
    return place


def take_operand(line):
    """Read the machine operand that must come next."""
    place = place_of(line.next_word())
    if place is None:
        return line.take_integer(GREATEST_INTEGER)
    line.take()
    return ("at", place)


def take_value(line):
    """Read a machine value."""
    one = take_operand(line)
    if line.next_word() not in ("plus", "less", "times"):
        return ("as", one)
    word = line.take()
    return (word, one, line.take_integer(GREATEST_INTEGER) if word == "times" else take_operand(line))


def take_pair(line):
    """Read a machine pair."""
    one = take_operand(line)
    word = line.take_one_of(PAIR_WORDS)
    return (word, one, take_operand(line))


def take_deed(line):
    """Read the deed of a step."""
    word = line.take_one_of(DEED_WORDS)
    if word == "skip":
        return ("skip",)
    if word == "give":
        return ("give", take_operand(line))
    if word == "test":
        pair = take_pair(line)
        return ("test", pair, line.take_one_of(("yes", "no")) == "yes")
    if word == "drop":
        return ("set", None, take_value(line))
    place = take_place(line, ())
    line.take_one_of(("as",))
    return ("set", place, take_value(line))


def take_step(line):
    """Read a line with words, which tells a step."""
    start = take_point(line)
    deed = take_deed(line)
    changed = place_set(deed)
    # What is put into twice is refused where it stands for the second time.
    taken = [] if changed is None else [changed]
    moves = []
    while line.take_one_of(("with", "go")) == "with":
        to = take_place(line, taken)
        taken.append(to)
        line.take_one_of(("from",))
        moves.append((to, take_place(line, ())))
    end = take_point(line)
    line.finish()
    return Step(start, deed, moves, end)


def code_of_text(text):
    """The Code that a text tells."""
    if not isinstance(text, str):
        raise BadText(0, 0)
    rows = [words_of(line) for line in lines_in(text)]
    return Code([take_step(Line(at + 1, words)) for at, words in enumerate(rows) if words])
