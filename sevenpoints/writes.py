"""Writes: what steps put into places at once, done one behind another with a spare place."""

from sevenpoints.places import in_order, place_set, places_at


def is_move(value):
    """Whether a machine value is just what a place has."""
    return value[0] == "as" and isinstance(value[1], tuple)


def move_from(place):
    """The machine value that is what a place has."""
    return ("as", ("at", place))


def writes_of(moves, deed):
    """The writes of moves and a deed, as pairs (place, value): all but those that put into a place what it has."""
    told = [(to, move_from(source)) for to, source in moves]
    changed = place_set(deed)
    if changed is not None:
        told.append((changed, deed[2]))
    return [(place, value) for place, value in told if value != move_from(place)]


def rounds_in(moves):
    """The closed rounds of some moves (to, from)."""
    source = {to: place for to, place in moves}
    read = [place for _, place in moves]
    seen = {}
    found = []
    for first in in_order(list(source)):
        row = []
        place = first
        while place in source and place not in seen:
            seen[place] = True
            row.append(place)
            place = source[place]
        if len(row) > 1 and place == first and all([read.count(one) == 1 for one in row]):
            found.append(tuple(row))
    return tuple(found)


def rounds_of_writes(writes):
    """The closed rounds of those writes that are moves."""
    return rounds_in([(place, value[1][1]) for place, value in writes if is_move(value)])


class Untangling:
    """Writes that are done one behind another: those that are left, and the row of what has been done.

    The first thing that a place had is then found in the copy of it, once the place itself has been written.
    """

    def __init__(self, writes, spare):
        self.left = {place: value for place, value in writes}
        self.spare = spare
        self.written = {}
        self.copies = {}
        self.row = []

    def go(self):
        """Do all writes."""
        self.go_free()
        while self.left:
            self.loosen()
            self.go_free()

    def go_free(self):
        """Do all writes that can be done without the spare place."""
        free = self.free_places()
        while free:
            self.do(free[0])
            free = self.free_places()

    def free_places(self):
        """The places that may be written now."""
        return [place for place in list(self.left) if self.is_free(place)]

    def is_free(self, place):
        """Whether a place may be written now: what it had at first is elsewhere, or needed by its own write alone."""
        if place in self.copies:
            return True
        others = [self.left[other] for other in list(self.left) if other != place]
        return not any([place in places_at(value[1:]) for value in others])

    def found(self, operand):
        """A machine operand that now is what another one was at first."""
        if isinstance(operand, tuple) and operand[1] in self.written:
            return ("at", self.copies[operand[1]])
        return operand

    def put(self, place, value):
        """Put into a place what a value was at first."""
        self.row.append((place, (value[0],) + tuple([self.found(operand) for operand in value[1:]])))
        if is_move(value):
            self.copies[value[1][1]] = place

    def do(self, place):
        """Do the write of a place."""
        self.put(place, self.left.pop(place))
        self.written[place] = True

    def loosen(self):
        """Put into the spare place what is in the way: the value that is no move, otherwise a place of a round."""
        others = [place for place in list(self.left) if not is_move(self.left[place])]
        # The value goes first: a copy of some place might have to stay in the spare place until the value is done.
        if others:
            self.put(self.spare, self.left[others[0]])
            self.left[others[0]] = move_from(self.spare)
        else:
            self.put(self.spare, move_from(in_order(list(self.left))[0]))


def row_of_writes(writes, spare):
    """A shortest row of pairs (place, value) that does writes one behind another."""
    untangling = Untangling(writes, spare)
    untangling.go()
    return untangling.row


def is_knotted(writes):
    """Whether a write that is no move is in a knot."""
    untangling = Untangling(writes, None)
    untangling.go_free()
    # What can be done without the spare place is in no knot, and all that is then left is one.
    return not all([is_move(value) for value in list(untangling.left.values())])


def fewest_writes(writes):
    """How many instructions a shortest row has that does writes one behind another."""
    return len(writes) + len(rounds_of_writes(writes)) + (1 if is_knotted(writes) else 0)


class Terms:
    """What places have, by numbers: one for each unlike thing that a machine value can be of what they had at first."""

    def __init__(self):
        self.numbers = {}
        self.held = {}

    def number_of(self, key):
        """The number of what a key tells, the same one each time."""
        return self.numbers.setdefault(key, len(self.numbers))

    def at(self, place):
        """The number of what a place has."""
        if place not in self.held:
            self.held[place] = self.number_of(("at", place))
        return self.held[place]

    def of_operand(self, operand):
        """The number of what a machine operand is."""
        return self.at(operand[1]) if isinstance(operand, tuple) else self.number_of(("just", operand))

    def of_value(self, value):
        """The number of what a machine value is, whatever functions stand for plus, less and times."""
        parts = [self.of_operand(operand) for operand in value[1:]]
        return parts[0] if value[0] == "as" else self.number_of((value[0], parts[0], parts[1]))

    def put(self, place, value):
        """Put into a place what a value is."""
        self.held[place] = self.of_value(value)

    def needed_by(self, writes):
        """For the places of writes the numbers of what they must have behind these."""
        return {place: self.of_value(value) for place, value in writes}

    def have(self, needed, spare):
        """Whether each place but the spare one has what is needed there, or else what it had at first."""
        for place in list(self.held) + list(needed):
            first = self.number_of(("at", place))
            if place != spare and self.at(place) != needed.get(place, first):
                return False
        return True


def does_writes(writes, spare, row):
    """Whether a row of pairs (place, value), done one behind another, does writes."""
    terms = Terms()
    needed = terms.needed_by(writes)
    for place, value in row:
        terms.put(place, value)
    return terms.have(needed, spare)
