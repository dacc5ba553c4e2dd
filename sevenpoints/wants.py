"""Names that are wanted: at which points of a graph a way begins that reads a name before it sets it."""

from sevenpoints.errors import BadName, BadRow
from sevenpoints.graphs import check_point, name_set, names_read
from sevenpoints.rows import is_ascending, is_between, is_order


def passing(graph):
    """For each edge its start, the names that its deed reads, the name that it sets, and its end."""
    return [(edge.start, names_read(edge.deed), name_set(edge.deed), edge.end) for edge in graph.edges]


def go_round(edges, rows):
    """Go through edges, as passing tells them, once; rows has a dict of names for each point."""
    for start, read, changed, end in edges:
        told = [name for name in list(rows[end]) if name != changed] + list(read)
        for name in told:
            rows[start][name] = True


def table_of(rows):
    """The table that dicts of names tell."""
    return tuple([tuple(sorted(row)) for row in rows])


def many_names(rows):
    """How many names some rows have together."""
    return sum([len(row) for row in rows])


def tables_of(graph, order):
    """The tables behind the rounds in an order of the edges that add a name."""
    told = passing(graph)
    edges = [told[at] for at in order]
    rows = [{} for _ in range(graph.points)]
    tables = []
    many = -1
    while many < many_names(rows):
        many = many_names(rows)
        go_round(edges, rows)
        tables.append(table_of(rows))
    # The last round has added nothing.
    return tuple(tables[:-1])


def wanted(graph):
    """For each point the names that are wanted there, ascending."""
    # What is wanted spreads against the edges, so it is soon everywhere if the later ones go first.
    tables = tables_of(graph, list(range(len(graph.edges)))[::-1])
    return tables[-1] if tables else ((),) * graph.points


def rounds_of(graph, order):
    """The tables behind the rounds in an order of the edges, up to the first round that adds nothing."""
    if not is_order(order, len(graph.edges)):
        raise BadRow(order)
    return tables_of(graph, order)


def check_point_and_name(graph, point, name):
    """Raise BadPoint for what is no point of the graph, then BadName for what is no string."""
    check_point(graph, point)
    if not isinstance(name, str):
        raise BadName(name)


def lengths_to(graph, name):
    """For each point the length of a shortest way that shows that a name is wanted there, None if it is not."""
    edges = passing(graph)
    lengths = [None] * graph.points
    for start, read, _, _ in edges:
        if name in read:
            lengths[start] = 1
    length = 1
    while length in lengths:
        for start, _, changed, end in edges:
            if lengths[start] is None and lengths[end] == length and changed != name:
                lengths[start] = length + 1
        length += 1
    return lengths


def goes_nearer(edge, name, lengths):
    """Whether an edge is one of a shortest way, lengths being those of lengths_to."""
    if lengths[edge.start] == 1:
        return name in names_read(edge.deed)
    return name_set(edge.deed) != name and lengths[edge.end] == lengths[edge.start] - 1


def way_to(graph, point, name):
    """The indices of the edges of a shortest way that shows that a name is wanted, None if it is not."""
    check_point_and_name(graph, point, name)
    lengths = lengths_to(graph, name)
    if lengths[point] is None:
        return None
    way = []
    for _ in range(lengths[point]):
        ahead = [at for at, edge in enumerate(graph.edges)
                 if edge.start == point and goes_nearer(edge, name, lengths)]
        way.append(ahead[0])
        point = graph.edges[ahead[0]].end
    return tuple(way)


def is_way(graph, point, name, told):
    """Whether a value is a way that shows that a name is wanted at a point."""
    check_point_and_name(graph, point, name)
    if not isinstance(told, tuple) or not all([is_between(at, 0, len(graph.edges) - 1) for at in told]):
        return False
    edges = [graph.edges[at] for at in told]
    ahead = edges[:-1]
    # No edge at all is no way, either: the first one must begin at the point.
    if [edge.start for edge in edges] != [point] + [edge.end for edge in ahead]:
        return False
    return name not in [name_set(edge.deed) for edge in ahead] and name in names_read(edges[-1].deed)


def crowd(graph):
    """The greatest number of names that are wanted at one point."""
    return max([0] + [len(row) for row in wanted(graph)])


def together(graph):
    """The pairs of names that are wanted at one and the same point."""
    pairs = [(row[at], other) for row in wanted(graph) for at in range(len(row)) for other in row[at + 1:]]
    return tuple(sorted(set(pairs)))


def is_name_row(value):
    """Whether a value is a strictly ascending tuple of strings."""
    if not isinstance(value, tuple) or not all([isinstance(name, str) for name in value]):
        return False
    return is_ascending(value)


def is_closed(graph, told):
    """Whether a value is a closed table: what an edge needs at its start stands there."""
    if not isinstance(told, tuple) or len(told) != graph.points or not all([is_name_row(row) for row in told]):
        return False
    for start, read, changed, end in passing(graph):
        needed = list(read) + [name for name in told[end] if name != changed]
        if not all([name in told[start] for name in needed]):
            return False
    return True
