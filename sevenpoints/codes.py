"""Codes: what the machine does for a placing of a program."""

from sevenpoints.errors import BadRow
from sevenpoints.graphs import graph_of, name_set
from sevenpoints.leasts import least_placing
from sevenpoints.machine import Code, Step
from sevenpoints.meaning import is_input_row
from sevenpoints.places import is_place_pair
from sevenpoints.placings import check_registers, placing_kept
from sevenpoints.rows import each_once, is_same
from sevenpoints.tallies import counts
from sevenpoints.wants import wanted


def placed(names, stand):
    """The place of each name that is wanted at a point with this stand."""
    return {name: name if item is None else item for name, item in zip(names, stand)}


def placed_all(program, placing):
    """For each point the places of the names that are wanted there, BadRow for what is no placing."""
    kept = placing_kept(program, placing)
    return [placed(names, stand) for names, stand in zip(wanted(graph_of(program)), kept)]


def begin_of(program, placing, inputs):
    """What the places of the names that are wanted at the begin have at first."""
    here = placed_all(program, placing)[0]
    if not is_input_row(program, inputs):
        raise BadRow(inputs)
    held = {name: worth for name, worth in zip(program.inputs, inputs)}
    return tuple([(here[name], held.get(name, 0)) for name in here])


def machine_row(row, here):
    """A value or a pair, or the deed of a give or a skip, with machine operands."""
    told = [("at", here[operand]) if isinstance(operand, str) else operand for operand in row[1:]]
    return (row[0],) + tuple(told)


def machine_deed(deed, here, there):
    """A deed as the machine has it, with the places at the start and those at the end of its edge."""
    if deed[0] == "set":
        return ("set", there.get(deed[1]), machine_row(deed[2], here))
    if deed[0] == "test":
        return ("test", machine_row(deed[1], here), deed[2])
    return machine_row(deed, here)


def ways_on(edge, places):
    """The pairs (place at the end, place at the start) of the names that go on along an edge."""
    here, there = places[edge.start], places[edge.end]
    changed = name_set(edge.deed)
    return [(there[name], here[name]) for name in there if name != changed]


def step_of(edge, places):
    """The Step of an edge."""
    deed = machine_deed(edge.deed, places[edge.start], places[edge.end])
    return Step(edge.start, deed, [pair for pair in ways_on(edge, places) if pair[0] != pair[1]], edge.end)


def code_of(program, placing):
    """The Code of a placing."""
    places = placed_all(program, placing)
    return Code([step_of(edge, places) for edge in graph_of(program).edges])


def keeps_edge(edge, places, step):
    """Whether a value is a Step that does what an edge needs."""
    if not isinstance(step, Step):
        return False
    model = step_of(edge, places)
    if not is_same((step.start, step.deed, step.end), (model.start, model.deed, model.end)):
        return False
    if not isinstance(step.moves, tuple) or not all([is_place_pair(move) for move in step.moves]):
        return False
    changed = [model.deed[1]] if model.deed[0] == "set" else []
    tos = [move[0] for move in step.moves]
    if len(each_once(tos + changed)) < len(tos + changed):
        return False
    return all([pair in step.moves or pair[0] == pair[1] and pair[0] not in tos for pair in ways_on(edge, places)])


def is_code(program, placing, told):
    """Whether a value is a Code that keeps a placing."""
    places = placed_all(program, placing)
    edges = graph_of(program).edges
    if not isinstance(told, Code) or not isinstance(told.steps, tuple) or len(told.steps) != len(edges):
        return False
    return all([keeps_edge(edge, places, step) for edge, step in zip(edges, told.steps)])


def best_placing(program, registers, rows, turns):
    """A placing with the least cost for the prices that tell how often runs take each edge."""
    check_registers(registers)
    return least_placing(program, registers, counts(program, rows, turns))
