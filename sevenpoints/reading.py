"""Reading: the program that the lines of a text tell."""

from sevenpoints.errors import BadText
from sevenpoints.programs import (
    GREATEST_FACTOR, GREATEST_OPERAND, LEAVING_WORDS, LOOP_WORDS, MOST_INPUTS, MOST_NAMES, MOST_PAIRS, MOST_PARTS,
    MOST_STATEMENTS, PAIR_WORDS, Program, is_name,
)
from sevenpoints.words import Line, lines_in, words_of

DEEPEST_PARENTHESIS = 8


class Opened:
    """What has been opened by a line and is closed by the line end: its word, its condition, its blocks so far."""

    def __init__(self, word, condition):
        self.word = word
        self.condition = condition
        self.ahead_of_else = None
        self.block = []

    def lets_else(self):
        """Whether the line else may come next."""
        return self.word == "if" and self.ahead_of_else is None

    def take_else(self):
        """Begin the block behind the line else."""
        self.ahead_of_else = self.block
        self.block = []

    def statement(self):
        """The statement that is told once it is closed."""
        if self.word == "loop":
            return ("loop", self.block)
        if self.word == "while":
            return ("while", self.condition, self.block)
        if self.ahead_of_else is None:
            return ("if", self.condition, self.block, [])
        return ("if", self.condition, self.ahead_of_else, self.block)


class Reader:
    """What the lines so far have told. A word is refused as soon as no right text goes on from it."""

    def __init__(self):
        self.name = ""
        self.many_inputs = 0
        self.known = []
        self.statements = 0
        self.opened = []
        self.block = None
        self.pairs = 0
        self.parts = 0

    def read(self, line):
        """Read a line that has words."""
        if self.block is not None:
            line.refuse()
        if not self.opened:
            self.read_head(line)
        elif line.next_word() == "end":
            line.take()
            self.close()
        elif line.next_word() == "else" and self.opened[-1].lets_else():
            line.take()
            self.opened[-1].take_else()
        else:
            self.read_statement(line)
        line.finish()

    def read_head(self, line):
        """Read the line with the names of the program and of its inputs."""
        line.take_one_of(("program",))
        if not is_name(line.next_word()):
            line.refuse()
        self.name = line.take()
        if line.next_word() == "of":
            line.take()
            self.read_input(line)
            while line.next_word() != "":
                self.read_input(line)
        self.opened.append(Opened("program", None))

    def read_input(self, line):
        """Read the name of one more input."""
        if line.next_word() in self.known or self.many_inputs == MOST_INPUTS:
            line.refuse()
        self.read_name(line)
        self.many_inputs += 1

    def read_name(self, line):
        """Read a name of the program."""
        word = line.next_word()
        if not is_name(word):
            line.refuse()
        if word not in self.known:
            if len(self.known) == MOST_NAMES:
                line.refuse()
            self.known.append(word)
        return line.take()

    def read_operand(self, line):
        """Read a name or an integer."""
        if is_name(line.next_word()):
            return self.read_name(line)
        return line.take_integer(GREATEST_OPERAND)

    def close(self):
        """Close what has been opened last."""
        closed = self.opened.pop()
        if self.opened:
            self.opened[-1].block.append(closed.statement())
        else:
            self.block = closed.block

    def read_statement(self, line):
        """Read the line of a statement, the first one if it has a block."""
        if self.statements == MOST_STATEMENTS:
            line.refuse()
        self.statements += 1
        word = line.next_word()
        if word in ("if", "while"):
            line.take()
            self.opened.append(Opened(word, self.read_whole_condition(line)))
        elif word == "loop":
            line.take()
            self.opened.append(Opened(word, None))
        else:
            self.opened[-1].block.append(self.read_simple(line))

    def read_simple(self, line):
        """Read a statement that has no block."""
        word = line.next_word()
        if word == "skip" or word in LEAVING_WORDS and self.is_in_loop():
            return (line.take(),)
        if word == "give":
            line.take()
            return ("give", self.read_operand(line))
        name = self.read_name(line)
        line.take_one_of(("=",))
        return ("set", name, self.read_value(line))

    def is_in_loop(self):
        """Whether a while or a loop is open."""
        return any([opened.word in LOOP_WORDS for opened in self.opened])

    def read_value(self, line):
        """Read the value of a set, with which the line ends."""
        first = self.read_operand(line)
        if line.next_word() == "":
            return ("as", first)
        word = line.take_one_of(("plus", "less", "times"))
        if word == "times":
            return (word, first, line.take_integer(GREATEST_FACTOR))
        return (word, first, self.read_operand(line))

    def read_whole_condition(self, line):
        """Read the condition of an if or a while."""
        # The pair that must come counts already, as no right text is without it.
        self.pairs = 1
        self.parts = 1
        return self.read_condition(line, 0)

    def spend(self, line, pairs, parts):
        """Count what the word that comes next brings, with the pair that must come behind it."""
        self.pairs += pairs
        self.parts += parts
        if self.pairs > MOST_PAIRS or self.parts > MOST_PARTS:
            line.refuse()

    def read_condition(self, line, depth):
        """Read sides with the word or between, within so many parentheses."""
        told = self.read_sides(line, depth)
        while line.next_word() == "or":
            self.spend(line, 1, 2)
            line.take()
            told = ("or", told, self.read_sides(line, depth))
        return told

    def read_sides(self, line, depth):
        """Read ones with the word and between."""
        told = self.read_one(line, depth)
        while line.next_word() == "and":
            self.spend(line, 1, 2)
            line.take()
            told = ("and", told, self.read_one(line, depth))
        return told

    def read_one(self, line, depth):
        """Read a pair, a not with what it turns round, or a condition in parentheses."""
        if line.next_word() == "not":
            self.spend(line, 0, 1)
            line.take()
            return ("not", self.read_one(line, depth))
        if line.next_word() == "(":
            if depth == DEEPEST_PARENTHESIS:
                line.refuse()
            line.take()
            told = self.read_condition(line, depth + 1)
            line.take_one_of((")",))
            return told
        one = self.read_operand(line)
        word = line.take_one_of(PAIR_WORDS)
        return (word, one, self.read_operand(line))


def program_read(text):
    """The Program that a text tells, which must be a string."""
    reader = Reader()
    lines = lines_in(text)
    for at, line in enumerate(lines):
        words = words_of(line)
        if words:
            reader.read(Line(at + 1, words))
    if reader.block is None:
        raise BadText(len(lines) + 1, 1)
    return Program(reader.name, reader.known[:reader.many_inputs], reader.block)
