"""Blocks: the blocks in statements, and the deeds of statements in the order in which the edges of graphs have them."""

# With which item the blocks of a statement begin; the other statements have none.
FIRST_BLOCK = {"if": 2, "while": 2, "loop": 1}


def first_block(statement):
    """With which item the blocks of a statement begin."""
    return FIRST_BLOCK.get(statement[0], len(statement))


def blocks_in(statement):
    """The blocks of a statement."""
    return statement[first_block(statement):]


def with_blocks(statement, blocks):
    """A statement with other blocks in the place of its own ones."""
    return statement[:first_block(statement)] + tuple(blocks)


def block_at(block, path):
    """The block with a path in a block, None if there is none; the path has an even number of integers from 0 on."""
    for at in range(0, len(path), 2):
        blocks = blocks_in(block[path[at]]) if path[at] < len(block) else ()
        if path[at + 1] >= len(blocks):
            return None
        block = blocks[path[at + 1]]
    return block


def with_block_at(block, path, told):
    """A block in which another one stands at a path."""
    if not path:
        return told
    statement = block[path[0]]
    blocks = list(blocks_in(statement))
    blocks[path[1]] = with_block_at(blocks[path[1]], path[2:], told)
    return block[:path[0]] + (with_blocks(statement, blocks),) + block[path[0] + 1:]


def condition_with(condition, deeds):
    """A condition with the pairs of the deeds that come next in the place of its own ones."""
    if condition[0] not in ("not", "and", "or"):
        return deeds.pop(0)[1]
    return condition[:1] + tuple([condition_with(part, deeds) for part in condition[1:]])


def block_with(block, deeds):
    """A block with the deeds that come next in the place of its own ones: sets, gives, and a test for each pair.

    In this order the edges of a graph are made, too.
    """
    return tuple([statement_with(statement, deeds) for statement in block])


def statement_with(statement, deeds):
    """A statement with the deeds that come next in the place of its own ones."""
    word = statement[0]
    if word in ("set", "give"):
        return deeds.pop(0)
    if word in ("if", "while"):
        statement = (word, condition_with(statement[1], deeds)) + statement[2:]
    return with_blocks(statement, [block_with(block, deeds) for block in blocks_in(statement)])


def block_without(block, marks):
    """A block without the sets whose marks, which come in the order of the sets, are True."""
    kept = []
    for statement in block:
        if statement[0] != "set":
            kept.append(with_blocks(statement, [block_without(one, marks) for one in blocks_in(statement)]))
        elif not marks.pop(0):
            kept.append(statement)
    return tuple(kept)
