"""Hunting: orders in which points are taken out, states of guards and a runner, and sets that touch one another.

Sets of points are integers, as in parts.
"""

from sevenpoints.parts import many_in, points_in


def neighbors_then(parts, point, gone):
    """The neighbors that a point has once all points of a set have been taken out."""
    whole = parts.part_with(1 << point, gone)
    return parts.around(whole) & (parts.whole ^ whole)


def least_order(parts, points):
    """The least width of all trees of lots, and an order whose tree has it."""
    # For each set that is taken out first: the least width up to then, and the point that goes last of it.
    best = [0]
    last = [0]
    for gone in range(1, 1 << points):
        ways = []
        for point in range(points):
            if gone >> point & 1:
                ahead = gone ^ (1 << point)
                ways.append((max(best[ahead], many_in(neighbors_then(parts, point, ahead))), point))
        width, point = min(ways)
        best.append(width)
        last.append(point)
    order = []
    gone = parts.whole
    while gone:
        order.append(last[gone])
        gone = gone ^ (1 << last[gone])
    return best[parts.whole], order[::-1]


def some_sets(points, most):
    """All sets of at most so many of the points."""
    found = [0]
    for point in range(points):
        found = found + [mask | (1 << point) for mask in found if many_in(mask) < most]
    return found


def lasts(parts, states, guards, part, most):
    """Whether a state of an escape from so many guards goes on: states has the parts for each set of guards."""
    for point in range(len(parts.near)):
        moved = guards ^ (1 << point)
        others = states.get(moved, [])
        if guards >> point & 1:
            ahead = [other for other in others if part & other == part]
        elif many_in(guards) < most:
            ahead = [other for other in others if part & other == other]
        else:
            ahead = [part]
        if not ahead:
            return False
    return True


def many_states(states):
    """How many states there are."""
    return sum([len(found) for found in list(states.values())])


def greatest_escape(parts, points, most):
    """The greatest escape from so many guards: for each set of guards the parts in which the runner lasts."""
    states = {guards: parts.parts_within(parts.whole ^ guards) for guards in some_sets(points, most)}
    many = -1
    while many != many_states(states):
        many = many_states(states)
        states = {guards: [part for part in states[guards] if lasts(parts, states, guards, part, most)]
                  for guards in list(states)}
    return states


def touching_choice(parts, choices):
    """One set out of each of some rows of sets, such that each two of them touch; None if there is no such choice."""
    if not choices:
        return []
    least = min([len(row) for row in choices])
    at = [len(row) for row in choices].index(least)
    others = choices[:at] + choices[at + 1:]
    for one in choices[at]:
        left = [[other for other in row if parts.touch(one, other)] for row in others]
        told = touching_choice(parts, left)
        if told is not None:
            return [one] + told
    return None


def can_be_hit(sets, most):
    """Whether so many points can be chosen such that each of some sets has at least one of them."""
    if not sets:
        return True
    if most == 0:
        return False
    left = sets
    # A point whose choice has led nowhere need not be looked at again, so it is taken out of all sets.
    for point in points_in(sets[0]):
        if can_be_hit([one for one in left if not one >> point & 1], most - 1):
            return True
        left = [one & ~(1 << point) for one in left]
    return False
