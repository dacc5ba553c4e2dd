"""Following: what names are as, an integer or another name, at the points of a graph."""


def known_behind(deed, known):
    """What names are as behind a deed, told what they are as ahead of it."""
    if deed[0] != "set":
        return known
    name, value = deed[1], deed[2]
    told = {one: other for one, other in known.items() if name not in (one, other)}
    if value[0] == "as" and value[1] != name:
        told[name] = value[1]
    return told


def in_both(one, other):
    """What two tables of what names are as have in common."""
    return {name: one[name] for name in one if name in other and other[name] == one[name]}


def known_at(graph, first):
    """For each point what names are as there, None for points that no way from the begin comes to.

    first tells what they are as ahead of all edges.
    """
    known = [None] * graph.points
    known[0] = first
    changed = True
    while changed:
        changed = False
        for edge in graph.edges:
            if known[edge.start] is not None:
                told = known_behind(edge.deed, known[edge.start])
                if known[edge.end] is not None:
                    told = in_both(known[edge.end], told)
                changed = changed or told != known[edge.end]
                known[edge.end] = told
    return known


def row_followed(row, known):
    """A value, a pair, or the deed of a give, each operand that is a name replaced by what it is as."""
    told = [known.get(operand, operand) if isinstance(operand, str) else operand for operand in row[1:]]
    return row[:1] + tuple(told)


def deed_followed(deed, known):
    """A deed, each operand that is a name replaced by what it is as."""
    if known is None:
        return deed
    if deed[0] == "set":
        return ("set", deed[1], row_followed(deed[2], known))
    if deed[0] == "test":
        return ("test", row_followed(deed[1], known), deed[2])
    return row_followed(deed, known)
