"""Rows and integers: what values are told to be, and kept as."""


def is_row(value):
    """Whether a value may be passed as a row."""
    return isinstance(value, (list, tuple))


def is_integer(value):
    """Whether a value is an integer, which True and False are not."""
    return isinstance(value, int) and not isinstance(value, bool)


def is_between(value, low, high):
    """Whether a value is an integer from low to high."""
    return is_integer(value) and low <= value <= high


def is_natural(value):
    """Whether a value is an integer from 0 on."""
    return is_integer(value) and value >= 0


def as_row(value):
    """The value with a tuple for each list in it, at all depths of lists and tuples."""
    if not is_row(value):
        return value
    # The rows that are being read stand on a stack, as they may be nested deeper than calls should be.
    rows = [value]
    kept = [[]]
    while len(kept[0]) < len(rows[0]):
        if len(kept[-1]) == len(rows[-1]):
            rows.pop()
            whole = tuple(kept.pop())
            kept[-1].append(whole)
            continue
        item = rows[-1][len(kept[-1])]
        if not is_row(item):
            kept[-1].append(item)
        elif holds_rows(item):
            rows.append(item)
            kept.append([])
        else:
            kept[-1].append(tuple(item))
    return tuple(kept[0])


def holds_rows(row):
    """Whether an item of a row is a row."""
    return any([is_row(item) for item in row])


def is_ascending(row):
    """Whether each item of a row is less than the next one."""
    return all([one < other for one, other in zip(row, row[1:])])


def is_order(value, many):
    """Whether a value is a row with each integer from 0 to below many once."""
    return is_row(value) and all([is_integer(item) for item in value]) and sorted(value) == list(range(many))


def is_same(value, model):
    """Whether a value is just a model of integers, strings, True, False, None and tuples; a bool is no integer."""
    if isinstance(model, tuple):
        if not isinstance(value, tuple) or len(value) != len(model):
            return False
        return all([is_same(one, other) for one, other in zip(value, model)])
    if value is not None and not isinstance(value, (int, str)):
        return False
    return isinstance(value, bool) == isinstance(model, bool) and value == model


def each_once(items):
    """The unlike ones of some items, in their order."""
    found = []
    for item in items:
        if item not in found:
            found.append(item)
    return tuple(found)
