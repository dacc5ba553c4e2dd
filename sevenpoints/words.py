"""Words: the lines of a text, read word by word up to the first wrong one."""

from sevenpoints.errors import BadText

DIGITS = "0123456789"


def lines_in(text):
    """The lines of a text; a line feed at its end begins no further one."""
    lines = text.split("\n")
    if lines[-1] == "":
        lines.pop()
    return lines


def words_of(line):
    """The words of a line. Spaces alone stand between words, so a tab is part of one."""
    return [word for word in line.split(" ") if word != ""]


def integer_of(word, greatest):
    """The integer, from -greatest to greatest, that a word writes as Python does; None if it writes none."""
    digits = word[1:] if word.startswith("-") else word
    # Longer words are not handed to int, as Python refuses to read very many digits.
    if not 1 <= len(digits) <= len(str(greatest)):
        return None
    if not all([sign in DIGITS for sign in digits]):
        return None
    if digits[0] == "0" and word != "0":
        return None
    number = int(word)
    return number if -greatest <= number <= greatest else None


class Line:
    """A line of a text: its number, its words, and how many of them have been read."""

    def __init__(self, number, words):
        self.number = number
        self.words = words
        self.done = 0

    def next_word(self):
        """The word that comes next, an empty string at the end of the line."""
        return self.words[self.done] if self.done < len(self.words) else ""

    def refuse(self):
        """Raise the error that tells that what comes next is wrong."""
        raise BadText(self.number, self.done + 1)

    def take(self):
        """Read the word that comes next."""
        word = self.next_word()
        self.done += 1
        return word

    def take_one_of(self, words):
        """Read the word that comes next, which must be one of these."""
        if self.next_word() not in words:
            self.refuse()
        return self.take()

    def take_between(self, low, high):
        """Read the INTEGER, from low to high, that must come next; high is 0 or more."""
        number = integer_of(self.next_word(), max(-low, high))
        if number is None or not low <= number <= high:
            self.refuse()
        self.take()
        return number

    def take_integer(self, greatest):
        """Read the INTEGER, from -greatest to greatest, that must come next."""
        return self.take_between(-greatest, greatest)

    def finish(self):
        """Let nothing but the end of the line come next."""
        if self.next_word() != "":
            self.refuse()
