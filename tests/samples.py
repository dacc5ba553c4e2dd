"""Programs for tests: some by hand, and as many as are asked for from a seed."""

import random

from sevenpoints.programs import Program
from sevenpoints.texts import program_of

GCD = program_of("""program gcd of a b
while not b is 0
  t = a
  while b most t
    t = t less b
  end
  a = b
  b = t
end
give a
end
""")

STEPS = program_of("""program steps of a
s = 0
loop
  if a most 0
    break
  else
    a = a less 1
  end
  s = s plus 2
  if s is 4
    next
  end
  s = s plus 1
end
give s
end
""")

FOREVER = program_of("program forever\nloop\nend\nend\n")

EMPTY = program_of("program empty\nend\n")

NAMES = ("a", "b", "c", "x1", "set", "as")


class Maker:
    """Makes programs at random, always the same ones from the same seed."""

    def __init__(self, seed):
        self.dice = random.Random(seed)
        self.left = 0

    def operand(self):
        if self.dice.random() < 0.6:
            return self.dice.choice(NAMES)
        return self.dice.choice((0, 1, 2, -1, 3, 999999999, -999999999))

    def value(self):
        word = self.dice.choice(("as", "plus", "less", "times"))
        if word == "as":
            return ("as", self.operand())
        if word == "times":
            return ("times", self.operand(), self.dice.choice((-999, -1, 0, 1, 2, 999)))
        return (word, self.operand(), self.operand())

    def condition(self, pairs, nots):
        if nots and self.dice.random() < 0.3:
            return ("not", self.condition(pairs, nots - 1))
        if pairs == 1:
            return (self.dice.choice(("below", "most", "is")), self.operand(), self.operand())
        ahead = self.dice.randint(1, pairs - 1)
        one = self.condition(ahead, nots // 2)
        return (self.dice.choice(("and", "or")), one, self.condition(pairs - ahead, nots // 2))

    def block(self, depth, in_loop):
        return tuple(self.statement(depth, in_loop) for _ in range(self.dice.randint(0, 4)) if self.take())

    def take(self):
        self.left -= 1
        return self.left >= 0

    def statement(self, depth, in_loop):
        words = ["set"] * 5 + ["skip"]
        if self.dice.random() < 0.15:
            words = ["give"]
        if in_loop and self.dice.random() < 0.2:
            words = ["break", "next"]
        if depth and self.dice.random() < 0.5:
            words = ["if", "if", "while", "loop"]
        word = self.dice.choice(words)
        if word == "set":
            return ("set", self.dice.choice(NAMES), self.value())
        if word == "give":
            return ("give", self.operand())
        if word == "loop":
            return ("loop", self.block(depth - 1, True))
        if word not in ("if", "while"):
            return (word,)
        condition = self.condition(self.dice.choice((1, 1, 1, 2, 3, 6)), self.dice.choice((0, 2, 9)))
        if word == "while":
            return ("while", condition, self.block(depth - 1, True))
        return ("if", condition, self.block(depth - 1, in_loop), self.block(depth - 1, in_loop))

    def program(self):
        self.left = self.dice.choice((3, 8, 20, 40))
        inputs = NAMES[:self.dice.randint(0, 4)]
        return Program(self.dice.choice(("p", "set", "x")), inputs, self.block(5, False))


def programs(seed, many):
    """So many programs."""
    maker = Maker(seed)
    return [maker.program() for _ in range(many)]


def rows_for(program, seed, many):
    """So many rows of inputs for a program."""
    dice = random.Random(seed)
    row = [-10 ** 60 + 1, 10 ** 60 - 1, 0, 1, 2, 3, -1, 7, 12]
    return [tuple(dice.choice(row) for _ in program.inputs) for _ in range(many)]
