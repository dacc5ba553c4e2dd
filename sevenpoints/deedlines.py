"""Deed lines: how the journal of a desk tells deeds, each in a line with its sum."""

from sevenpoints.words import lines_in, words_of

SUM_BOUND = 9973
SUM_FACTOR = 31


def deed_sum(deed, ahead):
    """The sum of the line of a deed, told that of the line ahead."""
    told = SUM_FACTOR * ahead + sum([(at + 1) * ord(sign) for at, sign in enumerate(deed)])
    return told % SUM_BOUND


def journal_text(deeds):
    """The lines of deeds."""
    lines = []
    ahead = 0
    for deed in deeds:
        ahead = deed_sum(deed, ahead)
        lines.append(f"{deed} {ahead}\n")
    return "".join(lines)


def words_as_told(text):
    """The words of a text, with a word for each line feed between lines that have words."""
    rows = [" ".join(words_of(line)) for line in lines_in(text)]
    return " ; ".join([row for row in rows if row])


def text_told(words):
    """The text that words_as_told tells by these words."""
    return " ".join(["\n" if word == ";" else word for word in words])


def put_deed(name, text):
    """The deed of a put."""
    return f"put {name} : {words_as_told(text)}"


def edit_deed(name, line, text):
    """The deed of an edit."""
    told = words_as_told(text)
    return f"edit {name} {line} :" + (" " + told if told else "")
