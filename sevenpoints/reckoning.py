"""Reckoning: values and conditions that are known without a run, and conditions turned round."""

from sevenpoints.meaning import pair_holds, value_told
from sevenpoints.programs import is_operand
from sevenpoints.rows import is_integer


def reckoned_value(value):
    """The value of a set, made simpler."""
    if value[0] == "as":
        return value
    word, one, other = value
    if is_integer(one) and is_integer(other):
        told = value_told(value, {})
        return ("as", told) if is_operand(told) else value
    if word == "times":
        return ("as", 0) if other == 0 else ("as", one) if other == 1 else value
    if other == 0:
        return ("as", one)
    return ("as", other) if word == "plus" and one == 0 else value


def decision(condition):
    """Whether a condition holds if it is decided, None if it is not."""
    word = condition[0]
    if word == "not":
        told = decision(condition[1])
        return None if told is None else not told
    if word in ("and", "or"):
        parts = [decision(part) for part in condition[1:]]
        if (word == "or") in parts:
            return word == "or"
        return None if None in parts else word == "and"
    if is_integer(condition[1]) and is_integer(condition[2]):
        return pair_holds(condition, {})
    # A name is what it is, whatever that is.
    return word != "below" if condition[1] == condition[2] else None


def reckoned_condition(condition):
    """A condition that is not decided, made simpler."""
    word = condition[0]
    if word not in ("not", "and", "or"):
        return condition
    left = [part for part in condition[1:] if decision(part) is None]
    if word != "not" and len(left) == 1:
        return reckoned_condition(left[0])
    return (word,) + tuple([reckoned_condition(part) for part in left])


def turned_condition(condition):
    """A condition with its nots ahead of pairs with is alone."""
    if condition[0] == "not":
        return turned_round(condition[1])
    if condition[0] in ("and", "or"):
        return condition[:1] + tuple([turned_condition(part) for part in condition[1:]])
    return condition


def turned_round(condition):
    """The condition that holds if another one does not, with its nots ahead of pairs with is alone."""
    word = condition[0]
    if word == "not":
        return turned_condition(condition[1])
    if word in ("and", "or"):
        return ("or" if word == "and" else "and",) + tuple([turned_round(part) for part in condition[1:]])
    if word == "is":
        return ("not", condition)
    return ("most" if word == "below" else "below", condition[2], condition[1])
