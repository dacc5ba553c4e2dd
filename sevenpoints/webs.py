"""Webs: where names hang together, and the registers with which no placing has a piece."""

from sevenpoints.graphs import graph_of, name_set
from sevenpoints.placings import check_registers
from sevenpoints.rows import as_row, is_between, is_integer
from sevenpoints.wants import crowd, wanted


class Still:
    """A register for each web."""

    def __init__(self, registers):
        self.registers = as_row(registers)


class Stuck:
    """A tree that shows that there are no such registers."""

    def __init__(self, tree):
        self.tree = as_row(tree)


def hung_together(points, pairs):
    """The points, those together that pairs of them join: ascending tuples, by their least points."""
    least = {point: point for point in points}
    for one, other in pairs:
        old, new = max(least[one], least[other]), min(least[one], least[other])
        least = {point: new if least[point] == old else least[point] for point in points}
    return [tuple([point for point in points if least[point] == first]) for first in points if least[first] == first]


def webs_of_name(graph, table, name):
    """The points of each web of a name; table has the names that are wanted at each point."""
    points = [point for point, names in enumerate(table) if name in names]
    pairs = [(edge.start, edge.end) for edge in graph.edges
             if name_set(edge.deed) != name and name in table[edge.start] and name in table[edge.end]]
    return hung_together(points, pairs)


def webs_of(program):
    """All webs, as pairs of the name and the points, by their names, then by their least points."""
    graph = graph_of(program)
    table = wanted(graph)
    names = sorted({name for row in table for name in row})
    return tuple([(name, web) for name in names for web in webs_of_name(graph, table, name)])


def have_common(one, other):
    """Whether two rows have an item in common."""
    return any([item in other for item in one])


def clashes(program):
    """The pairs of indices of webs that clash, ascending."""
    webs = [points for _, points in webs_of(program)]
    return tuple([(one, other) for one in range(len(webs)) for other in range(one + 1, len(webs))
                  if have_common(webs[one], webs[other])])


def clashing(program):
    """For each web the indices of the webs that clash with it."""
    near = [[] for _ in webs_of(program)]
    for one, other in clashes(program):
        near[one].append(other)
        near[other].append(one)
    return near


def barred_for(near, chosen, web):
    """The unlike registers of the chosen webs that clash with a web."""
    return sorted({chosen[other] for other in near[web] if chosen[other] is not None})


def hardest_web(near, chosen):
    """A web that isn't chosen, one of those that the most registers are barred for."""
    left = [web for web, number in enumerate(chosen) if number is None]
    return -max([(len(barred_for(near, chosen, web)), len(near[web]), -web) for web in left])[2]


def with_web(chosen, web, number):
    """The chosen webs and one more."""
    return chosen[:web] + [number] + chosen[web + 1:]


def choice_or_tree(near, many, chosen):
    """The registers of all webs, if the chosen ones let it, and None; otherwise None, and a tree that shows it.

    The chosen webs have the registers from 0 up to some number, all of them.
    """
    if None not in chosen:
        return tuple(chosen), None
    web = hardest_web(near, chosen)
    barred = barred_for(near, chosen, web)
    if len(barred) == many:
        return None, web
    fresh = max([-1] + [number for number in chosen if number is not None]) + 1
    trees = []
    for number in range(many):
        tree = None
        # Registers that are not in use are alike, so the first of them is enough.
        if number not in barred and number <= fresh:
            choice, tree = choice_or_tree(near, many, with_web(chosen, web, number))
            if choice is not None:
                return choice, None
        trees.append(tree)
    return None, (web, tuple(trees))


def fewest_still(program):
    """The least number of registers with which a placing without any piece is to be had."""
    near = clashing(program)
    # As many as are wanted at one point are needed in any case.
    many = crowd(graph_of(program))
    while choice_or_tree(near, many, [None] * len(near))[0] is None:
        many += 1
    return many


def still(program, registers):
    """A Still with so many registers, or a Stuck if there is none."""
    check_registers(registers)
    near = clashing(program)
    choice, tree = choice_or_tree(near, registers, [None] * len(near))
    return Stuck(tree) if choice is None else Still(choice)


def is_choice_of(near, many, told):
    """Whether a value is a tuple with a register for each web, webs that clash having unlike ones."""
    if not isinstance(told, tuple) or len(told) != len(near):
        return False
    if not all([is_between(number, 0, many - 1) for number in told]):
        return False
    return all([told[other] != number for web, number in enumerate(told) for other in near[web]])


def is_tree_for(near, many, chosen, told):
    """Whether a value is a tree for the chosen webs with their registers, so many there being."""
    web = told[0] if isinstance(told, tuple) and len(told) == 2 else told
    if not is_between(web, 0, len(near) - 1) or chosen[web] is not None:
        return False
    barred = barred_for(near, chosen, web)
    if is_integer(told):
        return len(barred) == many
    trees = told[1]
    if not isinstance(trees, tuple) or len(trees) != many:
        return False
    for number, tree in enumerate(trees):
        if tree is None:
            idle = number > 0 and number not in chosen and number - 1 not in chosen
            if number not in barred and not idle:
                return False
        elif number in barred or not is_tree_for(near, many, with_web(chosen, web, number), tree):
            return False
    return True


def is_still(program, registers, told):
    """Whether a value is a Still or a Stuck that is right with so many registers."""
    check_registers(registers)
    near = clashing(program)
    if isinstance(told, Still):
        return is_choice_of(near, registers, told.registers)
    return isinstance(told, Stuck) and is_tree_for(near, registers, [None] * len(near), told.tree)
