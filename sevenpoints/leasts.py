"""The least cost of all placings, with a placing that has it and a paper that no other one costs less."""

from sevenpoints.graphs import graph_of
from sevenpoints.lots import lots_of
from sevenpoints.nets import is_bound, joining_of, least_sum
from sevenpoints.placings import check_registers, check_stands, cost, is_placing, net_of, stands_for
from sevenpoints.rows import as_row
from sevenpoints.wants import wanted


class LeastPaper:
    """A placing, and a bound that is to show that it has the least cost."""

    def __init__(self, placing, bound):
        self.placing = as_row(placing)
        self.bound = as_row(bound)


def least_cost(program, registers, prices):
    """The least cost of all placings with so many registers."""
    return least_sum(net_of(program, registers, prices), lots_of(program))


def least_paper(program, registers, prices):
    """A paper that is right: a placing with the least cost, and the least sums below all lots."""
    joining = joining_of(net_of(program, registers, prices), lots_of(program))
    tables = joining.least_tables()
    choice = joining.choice_of(tables)
    table = wanted(graph_of(program))
    placing = [stands_for(len(names), registers)[state] for names, state in zip(table, choice)]
    return LeastPaper(placing, tables)


def least_placing(program, registers, prices):
    """A placing that has the least cost."""
    return least_paper(program, registers, prices).placing


def is_least_paper(program, registers, prices, told):
    """Whether a value is a paper that shows that its placing has the least cost."""
    net = net_of(program, registers, prices)
    if not isinstance(told, LeastPaper) or not is_placing(program, registers, told.placing):
        return False
    if not is_bound(net, lots_of(program), told.bound):
        return False
    return told.bound[0][0] == cost(program, prices, told.placing)


def cost_line(program, prices, most):
    """The least costs with no register, with one, and so on up to the most."""
    check_registers(most)
    line = []
    for registers in range(most + 1):
        if line and line[-1] == 0:
            # The line never rises, and no cost is below 0; what has too many stands is refused all the same.
            check_stands(program, registers)
            line.append(0)
        else:
            line.append(least_cost(program, registers, prices))
    return tuple(line)
