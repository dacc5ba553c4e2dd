"""Programs: what their rows may be, and the names in them."""

from sevenpoints.errors import BadName, BadProgram, BadRow, TooMany, Unlike
from sevenpoints.rows import as_row, each_once, is_between, is_row
from sevenpoints.words import DIGITS

LETTERS = "abcdefghijklmnopqrstuvwxyz"

# The words of texts, which no name is called.
WORDS = (
    "program", "of", "if", "else", "while", "loop", "end", "break", "next", "give", "skip",
    "plus", "less", "times", "below", "most", "is", "not", "and", "or",
)

PAIR_WORDS = ("below", "most", "is")
STATEMENT_WORDS = ("set", "if", "while", "loop", "give", "skip", "break", "next")
LOOP_WORDS = ("while", "loop")
LEAVING_WORDS = ("break", "next")

# What must stand behind the word of a row: statements, values and conditions have unlike words.
SHAPES = {
    ("statement", "set"): ("name", "value"),
    ("statement", "if"): ("condition", "block", "block"),
    ("statement", "while"): ("condition", "block"),
    ("statement", "loop"): ("block",),
    ("statement", "give"): ("operand",),
    ("statement", "skip"): (),
    ("statement", "break"): (),
    ("statement", "next"): (),
    ("value", "as"): ("operand",),
    ("value", "plus"): ("operand", "operand"),
    ("value", "less"): ("operand", "operand"),
    ("value", "times"): ("operand", "factor"),
    ("condition", "below"): ("operand", "operand"),
    ("condition", "most"): ("operand", "operand"),
    ("condition", "is"): ("operand", "operand"),
    ("condition", "not"): ("condition",),
    ("condition", "and"): ("condition", "condition"),
    ("condition", "or"): ("condition", "condition"),
}

LONGEST_NAME = 8
GREATEST_OPERAND = 999999999
GREATEST_FACTOR = 999
MOST_INPUTS = 4
MOST_STATEMENTS = 40
MOST_PAIRS = 6
MOST_PARTS = 20
MOST_NAMES = 8


def is_name(value):
    """Whether a value is a NAME."""
    if not isinstance(value, str) or not 1 <= len(value) <= LONGEST_NAME:
        return False
    if value[0] not in LETTERS or value in WORDS:
        return False
    return all([sign in LETTERS or sign in DIGITS for sign in value])


def is_operand(value):
    """Whether a value is an operand of a program: a NAME or an integer within its bounds."""
    return is_name(value) or is_between(value, -GREATEST_OPERAND, GREATEST_OPERAND)


def are_inputs(value):
    """Whether a value is a row that a program may have as its inputs."""
    if not is_row(value) or len(value) > MOST_INPUTS:
        return False
    return all([is_name(name) for name in value]) and len(each_once(value)) == len(value)


def is_wrong(kind, thing, in_loop):
    """Whether a thing itself, not an item of it, is none of the kind that must stand in its place."""
    if kind == "block":
        return not is_row(thing)
    if kind == "name":
        return not is_name(thing)
    if kind == "operand":
        return not is_operand(thing)
    if kind == "factor":
        return not is_between(thing, -GREATEST_FACTOR, GREATEST_FACTOR)
    if not is_row(thing) or len(thing) == 0 or not isinstance(thing[0], str):
        return True
    shape = SHAPES.get((kind, thing[0]))
    if shape is None or len(thing) != len(shape) + 1:
        return True
    return thing[0] in LEAVING_WORDS and not in_loop


def things_in(kind, thing, in_loop):
    """What must be looked at in a thing that is not wrong itself: rows of a kind, an item, whether it is in a loop."""
    if kind == "block":
        return [("statement", item, in_loop) for item in thing]
    if not is_row(thing):
        return []
    shape = SHAPES[(kind, thing[0])]
    inside = in_loop or thing[0] in LOOP_WORDS
    return [(part, item, inside) for part, item in zip(shape, thing[1:])]


def wrong_things(block):
    """A row with the first wrong thing in a block, an empty one if nothing is wrong."""
    due = [("block", block, False)]
    while due:
        kind, thing, in_loop = due.pop()
        if is_wrong(kind, thing, in_loop):
            return (thing,)
        due.extend(things_in(kind, thing, in_loop)[::-1])
    return ()


def rows_in(row):
    """A row of a program and all rows in it, at all depths, in any order."""
    found = []
    due = [row]
    while due:
        one = due.pop()
        found.append(one)
        due.extend([item for item in one if isinstance(item, tuple)])
    return found


def names_in(thing):
    """All names in a row of a program, or in an operand, as often as they stand there and in this order."""
    found = []
    due = [thing]
    while due:
        one = due.pop()
        if isinstance(one, str):
            found.append(one)
        elif isinstance(one, tuple):
            # The word of a row is no name, though a name may be spelled like it.
            items = [item for at, item in enumerate(one) if at > 0 or isinstance(item, tuple)]
            due.extend(items[::-1])
    return found


def rows_with(rows, words):
    """Those of some rows that have one of these words."""
    return [row for row in rows if len(row) > 0 and row[0] in words]


def check_limits(program):
    """Raise TooMany for the first limit that a program does not keep."""
    rows = rows_in(program.block)
    if len(rows_with(rows, STATEMENT_WORDS)) > MOST_STATEMENTS:
        raise TooMany("statements", MOST_STATEMENTS)
    conditions = [rows_in(row[1]) for row in rows_with(rows, ("if", "while"))]
    if any([len(rows_with(parts, PAIR_WORDS)) > MOST_PAIRS for parts in conditions]):
        raise TooMany("pairs", MOST_PAIRS)
    if any([len(parts) > MOST_PARTS for parts in conditions]):
        raise TooMany("parts", MOST_PARTS)
    if len(program.names()) > MOST_NAMES:
        raise TooMany("names", MOST_NAMES)


class Program:
    """A program: its name, the names of its inputs, and its block."""

    def __init__(self, name, inputs, block):
        if not is_name(name):
            raise BadName(name)
        if not are_inputs(inputs):
            raise BadRow(inputs)
        wrong = wrong_things(block)
        if wrong:
            raise BadProgram(wrong[0])
        self.name = name
        self.inputs = as_row(inputs)
        self.block = as_row(block)
        check_limits(self)

    def __eq__(self, other):
        return (isinstance(other, Program) and self.name == other.name
                and self.inputs == other.inputs and self.block == other.block)

    def names(self):
        """The unlike names of the program: its inputs, then the others as they stand in the block."""
        return each_once(list(self.inputs) + names_in(self.block))


def size(program):
    """How many statements a program has."""
    return len(rows_with(rows_in(program.block), STATEMENT_WORDS))


def are_name_pairs(value):
    """Whether a value is a row of rows of two NAMEs, the first ones unlike."""
    if not is_row(value) or not all([is_row(pair) and len(pair) == 2 for pair in value]):
        return False
    if not all([is_name(old) and is_name(new) for old, new in value]):
        return False
    return len(each_once([pair[0] for pair in value])) == len(value)


def with_names(row, table):
    """A row of a program with the names that a table tells for its own."""
    told = []
    for at, item in enumerate(row):
        if isinstance(item, tuple):
            told.append(with_names(item, table))
        elif at > 0:
            told.append(table.get(item, item))
        else:
            told.append(item)
    return tuple(told)


def renamed(program, pairs):
    """The program in which the first name of each pair is replaced by its second one, all at once."""
    if not are_name_pairs(pairs):
        raise BadRow(pairs)
    table = {pair[0]: pair[1] for pair in pairs}
    names = program.names()
    if len(each_once([table.get(name, name) for name in names])) < len(names):
        raise Unlike("names")
    inputs = [table.get(name, name) for name in program.inputs]
    return Program(program.name, inputs, with_names(program.block, table))
