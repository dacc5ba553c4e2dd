"""Texts of programs."""

from sevenpoints.errors import BadText
from sevenpoints.reading import program_read


def program_of(text):
    """The Program that a text tells."""
    if not isinstance(text, str):
        raise BadText(0, 0)
    return program_read(text)


def program_text(program):
    """The text of a program."""
    head = ["program", program.name]
    if program.inputs:
        head = head + ["of"] + list(program.inputs)
    lines = [" ".join(head)] + block_lines(program.block, 1) + ["end"]
    return "".join([line + "\n" for line in lines])


def block_lines(block, depth):
    """The lines of a block; depth is how many blocks its statements stand in."""
    lines = []
    for statement in block:
        lines.extend(statement_lines(statement, "  " * depth, depth))
    return lines


def statement_lines(statement, space, depth):
    """The lines of a statement; space is what stands ahead of its own ones."""
    word = statement[0]
    if word == "set":
        return [f"{space}{statement[1]} = {value_text(statement[2])}"]
    if word == "give":
        return [f"{space}give {statement[1]}"]
    if word == "loop":
        return [space + word] + block_lines(statement[1], depth + 1) + [space + "end"]
    if word not in ("if", "while"):
        return [space + word]
    lines = [f"{space}{word} {condition_text(statement[1])}"] + block_lines(statement[2], depth + 1)
    if word == "if" and statement[3]:
        lines = lines + [space + "else"] + block_lines(statement[3], depth + 1)
    return lines + [space + "end"]


def value_text(value):
    """The words of a value."""
    if value[0] == "as":
        return str(value[1])
    return f"{value[1]} {value[0]} {value[2]}"


def condition_text(condition):
    """The words of a condition, with the parentheses that are needed."""
    word = condition[0]
    if word == "not":
        return "not " + part_text(condition[1], ("and", "or"))
    if word == "and":
        return part_text(condition[1], ("or",)) + " and " + part_text(condition[2], ("and", "or"))
    if word == "or":
        return condition_text(condition[1]) + " or " + part_text(condition[2], ("or",))
    return f"{condition[1]} {word} {condition[2]}"


def part_text(condition, wrapped):
    """The words of a part of a condition, in parentheses if its own word is one of these."""
    text = condition_text(condition)
    return f"( {text} )" if condition[0] in wrapped else text
