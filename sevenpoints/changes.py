"""Changes of programs that keep what they mean, and make them no slower."""

from sevenpoints.blocks import block_at, block_with, block_without, blocks_in, with_block_at, with_blocks
from sevenpoints.errors import BadNumber, BadPlace, Unlike
from sevenpoints.following import deed_followed, known_at
from sevenpoints.graphs import graph_of, names_read
from sevenpoints.programs import Program
from sevenpoints.reckoning import decision, reckoned_condition, reckoned_value, turned_condition
from sevenpoints.rows import is_natural, is_row
from sevenpoints.wants import wanted

# The changes of settled, in their order.
ALL_CHANGES = ("turned", "reckoned", "followed", "dead", "reached")


def with_block(program, block):
    """A program with another block."""
    return Program(program.name, program.inputs, block)


def reached_block(block):
    """A block without what can't be come to, whether it goes on, and whether a break leaves what it stands in."""
    kept = []
    leaves = False
    for statement in block:
        told, goes, leaving = reached_statement(statement)
        kept.append(told)
        leaves = leaves or leaving
        if not goes:
            return tuple(kept), False, leaves
    return tuple(kept), True, leaves


def reached_statement(statement):
    """A statement as reached_block tells a block."""
    word = statement[0]
    told = [reached_block(block) for block in blocks_in(statement)]
    whole = with_blocks(statement, [block for block, _, _ in told])
    leaves = any([leaving for _, _, leaving in told])
    if word == "if":
        return whole, any([goes for _, goes, _ in told]), leaves
    if word in ("while", "loop"):
        return whole, word == "while" or leaves, False
    return whole, word in ("set", "skip"), word == "break"


def reached(program):
    """The program without the statements that can't be come to."""
    block, _, _ = reached_block(program.block)
    return with_block(program, block)


def dead_marks(program):
    """For each set of a program, in order, whether it is dead or idle."""
    graph = graph_of(program)
    table = wanted(graph)
    sets = [(edge.deed, edge.end) for edge in graph.edges if edge.deed[0] == "set"]
    return [deed[1] not in table[end] or deed[2] == ("as", deed[1]) for deed, end in sets]


def without_dead(program):
    """The program without dead and idle sets."""
    marks = dead_marks(program)
    while any(marks):
        program = with_block(program, block_without(program.block, marks))
        marks = dead_marks(program)
    return program


def followed(program):
    """The program with each name that is known to be as an integer or another name replaced by that."""
    graph = graph_of(program)
    known = known_at(graph, {name: 0 for name in program.names() if name not in program.inputs})
    # Of the two edges of a test the first one stands for its pair.
    edges = [edge for edge in graph.edges if edge.deed[0] in ("set", "give") or edge.deed[0] == "test" and edge.deed[2]]
    deeds = [deed_followed(edge.deed, known[edge.start]) for edge in edges]
    return with_block(program, block_with(program.block, deeds))


def reckoned_block(block):
    """A block, reckoned."""
    return tuple([told for statement in block for told in reckoned_statement(statement)])


def reckoned_statement(statement):
    """The statements that take the place of a statement."""
    word = statement[0]
    if word == "set":
        return (("set", statement[1], reckoned_value(statement[2])),)
    blocks = [reckoned_block(block) for block in blocks_in(statement)]
    if word not in ("if", "while"):
        return (with_blocks(statement, blocks),)
    holds = decision(statement[1])
    if holds is None:
        return ((word, reckoned_condition(statement[1])) + tuple(blocks),)
    if word == "if":
        return blocks[0] if holds else blocks[1]
    return (("loop", blocks[0]),) if holds else ()


def reckoned(program):
    """The program with what is known without a run reckoned."""
    return with_block(program, reckoned_block(program.block))


def turned_block(block):
    """A block, its conditions turned."""
    return tuple([turned_statement(statement) for statement in block])


def turned_statement(statement):
    """A statement, its conditions turned."""
    if statement[0] in ("if", "while"):
        statement = (statement[0], turned_condition(statement[1])) + statement[2:]
    return with_blocks(statement, [turned_block(block) for block in blocks_in(statement)])


def turned(program):
    """The program with nots ahead of pairs with is alone."""
    return with_block(program, turned_block(program.block))


def changed_by(program, word):
    """What the change with a word of ALL_CHANGES, or with the word settled, tells of a program."""
    if word == "turned":
        return turned(program)
    if word == "reckoned":
        return reckoned(program)
    if word == "followed":
        return followed(program)
    if word == "dead":
        return without_dead(program)
    return reached(program) if word == "reached" else settled(program)


def settled(program):
    """The program that none of the five changes changes any more."""
    changed = True
    while changed:
        changed = False
        for word in ALL_CHANGES:
            told = changed_by(program, word)
            changed = changed or told != program
            program = told
    return program


def is_path(value):
    """Whether a value is a row that the path of a block may be."""
    return is_row(value) and len(value) // 2 * 2 == len(value) and all([is_natural(item) for item in value])


def can_be_swapped(one, other):
    """Whether two statements are sets of unlike names, neither of which reads the name that the other one sets."""
    if one[0] != "set" or other[0] != "set" or one[1] == other[1]:
        return False
    return one[1] not in names_read(other) and other[1] not in names_read(one)


def swapped(program, path, index):
    """The program in which two sets, one behind the other in the block with a path, are exchanged."""
    block = block_at(program.block, path) if is_path(path) else None
    if block is None:
        raise BadPlace(path)
    if not is_natural(index) or index + 1 >= len(block):
        raise BadNumber("index", index)
    one, other = block[index], block[index + 1]
    if not can_be_swapped(one, other):
        raise Unlike("sets")
    told = block[:index] + (other, one) + block[index + 2:]
    return with_block(program, with_block_at(program.block, tuple(path), told))
