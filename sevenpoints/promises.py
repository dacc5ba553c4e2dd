"""Promises about the items of a desk: how they are read, word by word."""

from sevenpoints.errors import BadPromise, BadText
from sevenpoints.words import Line, words_of

GREATEST_NUMBER = 999999999
MOST_REGISTERS = 3
MOST_TURNS = 400
FARTHEST_INPUT = 99

# The words behind the first item of a promise; behind the last two another item comes.
KINDS = ("with", "still", "ready", "gives", "as", "like")
KINDS_OF_TWO = ("as", "like")


class Item:
    """An item of a desk: its name, the Program held under it, and the text of that."""

    def __init__(self, name, held, wording):
        self.name = name
        self.held = held
        self.wording = wording


class Promise:
    """A promise that has been read: its words, its kind, the items that it is about, and what else it tells."""

    def __init__(self, wording, kind, about, told):
        self.wording = wording
        self.kind = kind
        self.about = about
        self.told = told


def one_spaced(text):
    """The words of a promise with single spaces between."""
    return " ".join(words_of(text))


def item_places(wording):
    """Which words of a right promise stand for items."""
    return (0, 2) if wording.split(" ")[1] in KINDS_OF_TWO else (0,)


def is_about(wording, name):
    """Whether a name stands for an item in a right promise."""
    words = wording.split(" ")
    return name in [words[at] for at in item_places(wording)]


def with_item(wording, name, new):
    """A right promise with a new name for an item."""
    words = wording.split(" ")
    for at in item_places(wording):
        if words[at] == name:
            words[at] = new
    return " ".join(words)


def take_item(line, shelf):
    """Read the name of an item."""
    name = line.take_one_of([item.name for item in shelf])
    return [item for item in shelf if item.name == name][0]


def take_turns(line):
    """Read the words that tell within how many turns."""
    line.take_one_of(("in",))
    return line.take_between(0, MOST_TURNS)


def take_with(line):
    """Read what comes behind the word with: the number of registers, the word most or least, the number of pieces."""
    registers = line.take_between(0, MOST_REGISTERS)
    word = line.take_one_of(("most", "least"))
    return (registers, word, line.take_between(0, GREATEST_NUMBER))


def take_gives(line, item):
    """Read what comes behind the word gives: the value, the turns, the values of the inputs."""
    value = line.take_integer(GREATEST_NUMBER)
    turns = take_turns(line)
    if item.held.inputs:
        line.take_one_of(("of",))
    return (value, turns, tuple([line.take_integer(GREATEST_NUMBER) for _ in item.held.inputs]))


def take_bounds(line):
    """Read what comes behind the second item of a promise with as: the bounds of the inputs, the turns."""
    line.take_one_of(("from",))
    low = line.take_between(-FARTHEST_INPUT, FARTHEST_INPUT)
    line.take_one_of(("to",))
    high = line.take_between(low, FARTHEST_INPUT)
    return (low, high, take_turns(line))


def take_promise(line, shelf):
    """Read a promise about items of a shelf."""
    wording = " ".join(line.words)
    item = take_item(line, shelf)
    about = (item,)
    told = ()
    kind = line.take_one_of([word for word in KINDS if word != "ready" or item.held.names()])
    if kind in KINDS_OF_TWO:
        about = (item, take_item(line, shelf))
    if kind == "with":
        told = take_with(line)
    elif kind == "still":
        told = (line.take_between(0, MOST_REGISTERS),)
    elif kind == "ready":
        told = (line.take_one_of(item.held.names()),)
    elif kind == "gives":
        told = take_gives(line, item)
    elif kind == "as":
        told = take_bounds(line)
    line.finish()
    return Promise(wording, kind, about, told)


def promise_of(shelf, text):
    """The Promise about items of a shelf that a text tells."""
    if not isinstance(text, str):
        raise BadPromise(0)
    try:
        return take_promise(Line(1, words_of(text)), shelf)
    except BadText as wrong:
        raise BadPromise(wrong.column)
