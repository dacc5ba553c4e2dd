"""Parts: sets of points of a bare graph that hold together.

A set of points is an integer, with a bit for each point.
"""


def mask_of(points):
    """The set of some points."""
    told = 0
    for point in points:
        told = told | (1 << point)
    return told


def points_in(mask):
    """The points of a set, ascending."""
    return tuple([point for point in range(mask.bit_length()) if mask >> point & 1])


def many_in(mask):
    """How many points a set has."""
    return len(points_in(mask))


class Parts:
    """A bare graph of so many points: the set of all points, and for each one the set of its neighbors."""

    def __init__(self, points, pairs):
        self.whole = (1 << points) - 1
        self.near = [0] * points
        for one, other in pairs:
            self.near[one] = self.near[one] | (1 << other)
            self.near[other] = self.near[other] | (1 << one)

    def around(self, mask):
        """All neighbors of the points of a set; those in it, too, if they are neighbors of one another."""
        told = 0
        while mask:
            point = mask.bit_length() - 1
            told = told | self.near[point]
            mask = mask ^ (1 << point)
        return told

    def part_with(self, mask, within):
        """The points that can be come to from a set along pairs within another one, that set among them."""
        told = mask
        fresh = mask
        while fresh:
            fresh = self.around(fresh) & within & (self.whole ^ told)
            told = told | fresh
        return told

    def parts_within(self, mask):
        """The parts of a set: its points, those together that hold together."""
        found = []
        while mask:
            one = self.part_with(1 << (mask.bit_length() - 1), mask)
            found.append(one)
            mask = mask & (self.whole ^ one)
        return found

    def holds(self, mask):
        """Whether a set holds together."""
        return len(self.parts_within(mask)) == 1

    def touch(self, one, other):
        """Whether two sets have a point in common, or a pair that joins them."""
        return one & (other | self.around(other)) > 0
