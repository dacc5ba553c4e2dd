"""Journals of desks: read as far as they are whole, and done again."""

from sevenpoints.deedlines import SUM_BOUND, deed_sum, edit_deed, put_deed, text_told
from sevenpoints.desk import Desk
from sevenpoints.errors import BadNumber, BadText, PointError
from sevenpoints.rows import is_between
from sevenpoints.words import integer_of

GREATEST_LINE = 999999999


def sum_of(deed, ahead):
    """The sum of the line of a deed, told that of the line ahead."""
    if not isinstance(deed, str):
        raise BadText(0, 0)
    if not is_between(ahead, 0, SUM_BOUND - 1):
        raise BadNumber("ahead", ahead)
    return deed_sum(deed, ahead)


def does_text(desk, deed, words):
    """Whether a deed has the form of a put or an edit; then it is done."""
    if words[0] == "put":
        text = text_told(words[3:])
        if put_deed(words[1], text) == deed:
            desk.put(words[1], text)
            return True
    elif words[0] == "edit" and len(words) > 3:
        line = integer_of(words[2], GREATEST_LINE)
        text = text_told(words[4:])
        if edit_deed(words[1], line, text) == deed:
            desk.edit(words[1], line, text)
            return True
    return False


def does_promise(desk, words):
    """Whether a deed has the form of a keep or a release; then it is done."""
    promise = " ".join(words[2:])
    if words[0] == "keep":
        desk.keep(promise)
    elif words[0] == "release":
        desk.release(promise)
    return words[0] in ("keep", "release")


def does_item(desk, words):
    """Whether a deed has the form of a change, a rename or a drop; then it is done."""
    shape = (words[0], len(words))
    if shape == ("change", 3):
        desk.change(words[1], words[2])
    elif shape == ("rename", 3):
        desk.rename(words[1], words[2])
    elif shape == ("drop", 2):
        desk.drop(words[1])
    return shape in (("change", 3), ("rename", 3), ("drop", 2))


def does_word(desk, word):
    """Whether a deed is one of a single word; then it is done."""
    if word == "undo":
        desk.undo()
    elif word == "redo":
        desk.redo()
    elif word == "begin":
        desk.keeping.begin()
    elif word == "close" and desk.keeping.is_open():
        desk.keeping.close()
    else:
        return False
    return True


def does_deed(desk, deed):
    """Whether a deed has its form and can be done at a desk; then it is done."""
    words = deed.split(" ")
    if "" in words:
        return False
    try:
        if len(words) == 1:
            return does_word(desk, deed)
        if words[0] in ("put", "edit"):
            return does_text(desk, deed, words)
        return does_promise(desk, words) if words[1] == ":" else does_item(desk, words)
    except PointError:
        return False


def gone_through(text):
    """A Desk at which all lines that count have been done, but for attempts still open, and what they are as a text."""
    if not isinstance(text, str):
        raise BadText(0, 0)
    desk = Desk()
    ahead = 0
    length = 0
    whole = 0
    # What stands behind the last line feed is no line that counts.
    lines = text.split("\n")
    for line in lines[:-1]:
        deed, _, told = line.rpartition(" ")
        ahead = deed_sum(deed, ahead)
        if told != str(ahead) or not does_deed(desk, deed):
            break
        length += len(line) + 1
        if not desk.keeping.is_open():
            whole = length
    desk.keeping.leave_all()
    return desk, text[:whole]


def mended(text):
    """The longest beginning of a text that is made of lines that count, and in which no attempt is open."""
    _, told = gone_through(text)
    return told


def replayed(text):
    """A Desk at which the lines of the mended text have been done."""
    desk, _ = gone_through(text)
    return desk
