"""Placings: where the wanted names lie at each point, in registers or in their cells, and what that costs."""

from sevenpoints.errors import BadNumber, BadRow, TooMany
from sevenpoints.graphs import check_point, graph_of, name_set, names_read
from sevenpoints.joining import product_of
from sevenpoints.lots import lots_of
from sevenpoints.nets import Net, Tie
from sevenpoints.rows import as_row, each_once, is_between, is_natural, is_row
from sevenpoints.wants import wanted

MOST_STANDS = 20000


def check_registers(registers):
    """Raise BadNumber for what is no number of registers."""
    if not is_natural(registers):
        raise BadNumber("registers", registers)


def check_prices(prices, many):
    """Raise BadRow for what is no row of so many prices."""
    if not is_row(prices) or len(prices) != many or not all([is_natural(price) for price in prices]):
        raise BadRow(prices)


def stands_for(many, registers):
    """All stands of so many names, by their numbers."""
    told = [()]
    for _ in range(many):
        told = [stand + (item,) for stand in told for item in list(range(registers)) + [None]
                if item is None or item not in stand]
    return tuple(told)


def many_stands(many, registers):
    """How many stands so many names have, none of which is listed."""
    # For each number of registers in use, how many stands of the names so far use so many.
    using = [1]
    for _ in range(many):
        staying = using + [0]
        going = [0] + [some * (registers - used) for used, some in enumerate(using)]
        using = [one + other for one, other in zip(staying, going)]
    return sum(using)


def check_stands(program, registers):
    """Raise TooMany if the numbers of stands of the points of some lot have too great a product."""
    numbers = [many_stands(len(names), registers) for names in wanted(graph_of(program))]
    for lot in lots_of(program):
        if product_of([numbers[point] for point in lot.points]) > MOST_STANDS:
            raise TooMany("stands", MOST_STANDS)


def stands(program, registers, point):
    """All stands of a point, by their numbers."""
    check_registers(registers)
    graph = graph_of(program)
    check_point(graph, point)
    return stands_for(len(wanted(graph)[point]), registers)


def is_stand(value, many):
    """Whether a value is a stand of so many names in any registers."""
    if not isinstance(value, tuple) or len(value) != many:
        return False
    used = [item for item in value if item is not None]
    return all([is_natural(item) for item in used]) and len(each_once(used)) == len(used)


def is_any_placing(table, value):
    """Whether a value is a placing in any registers; table has the names that are wanted at each point."""
    if not isinstance(value, tuple) or len(value) != len(table):
        return False
    return all([is_stand(stand, len(names)) for stand, names in zip(value, table)])


def is_placing(program, registers, told):
    """Whether a value is a placing with so many registers."""
    check_registers(registers)
    if not is_any_placing(wanted(graph_of(program)), told):
        return False
    return all([item is None or item < registers for stand in told for item in stand])


def placing_kept(program, placing):
    """A placing as a tuple of tuples, BadRow for what is no placing for any number of registers."""
    kept = as_row(placing)
    if not is_any_placing(wanted(graph_of(program)), kept):
        raise BadRow(placing)
    return kept


def pieces_of(edge, table, placing):
    """How many pieces an edge has; table has the names that are wanted at each point."""
    here = {name: item for name, item in zip(table[edge.start], placing[edge.start])}
    there = {name: item for name, item in zip(table[edge.end], placing[edge.end])}
    changed = name_set(edge.deed)
    read = [name for name in names_read(edge.deed) if here[name] is None]
    moved = [name for name in there if name != changed and there[name] != here[name]]
    written = 1 if changed in there and there[changed] is None else 0
    return len(read) + len(moved) + written


def pieces(program, placing, index):
    """How many pieces the edge with an index has."""
    kept = placing_kept(program, placing)
    graph = graph_of(program)
    if not is_between(index, 0, len(graph.edges) - 1):
        raise BadNumber("index", index)
    return pieces_of(graph.edges[index], wanted(graph), kept)


def cost(program, prices, placing):
    """What a placing costs with a price for each edge."""
    graph = graph_of(program)
    check_prices(prices, len(graph.edges))
    kept = placing_kept(program, placing)
    table = wanted(graph)
    return sum([price * pieces_of(edge, table, kept) for edge, price in zip(graph.edges, prices)])


def items_at(stand, places):
    """The items of a stand at some places."""
    return tuple([stand[place] for place in places])


def tie_of(edge, table, listed, price):
    """The Tie of an edge; listed has the stands of each point."""
    ahead, behind = table[edge.start], table[edge.end]
    changed = name_set(edge.deed)
    kept = [name for name in behind if name != changed]
    read = [ahead.index(name) for name in names_read(edge.deed)]
    sources = [ahead.index(name) for name in kept]
    targets = [behind.index(name) for name in kept]
    written = [behind.index(changed)] if changed in behind else []
    ends = [(items_at(stand, targets), items_at(stand, written).count(None)) for stand in listed[edge.end]]
    # Stands in which the names that go on lie alike have the same pieces, but for what is read.
    rows = {}
    costs = []
    for stand in listed[edge.start]:
        source = items_at(stand, sources)
        if source not in rows:
            rows[source] = [many + unlike_items(source, target) for target, many in ends]
        cells = items_at(stand, read).count(None)
        costs.append([price * (cells + many) for many in rows[source]])
    return Tie(edge.start, edge.end, costs)


def unlike_items(one, other):
    """At how many places two tuples have unlike items."""
    return len([item for item, beside in zip(one, other) if item != beside])


def net_of(program, registers, prices):
    """The Net whose choices are the placings, by the numbers of their stands, and whose sums are their costs."""
    check_registers(registers)
    graph = graph_of(program)
    check_prices(prices, len(graph.edges))
    check_stands(program, registers)
    table = wanted(graph)
    listed = [stands_for(len(names), registers) for names in table]
    ties = [tie_of(edge, table, listed, price) for edge, price in zip(graph.edges, prices)]
    return Net([len(some) for some in listed], ties)
