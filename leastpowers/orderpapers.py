"""Own waits which show that the order of an unknown is not less, or not greater, than an integer."""

from leastpowers.gaps import with_gap
from leastpowers.ownwaits import are_own_waits_for, own_waits_for
from leastpowers.tablewaits import system_of


def below(table, unknown, order):
    """The system of a table with the wait that lets right sides happen only if an unknown's order is below order."""
    return with_gap(system_of(table), unknown, table[0], 1 - order)


def above(table, unknown, order):
    """The system of a table with the wait that lets an unknown happen only with an order above order."""
    return with_gap(system_of(table), table[0], unknown, order + 1)


def least_paper(table, unknown, order):
    """Own waits that show that no integer less than order is the order of an unknown, None if one can be."""
    return own_waits_for(below(table, unknown, order), table[0])


def greatest_paper(table, unknown, order):
    """Own waits that show that no integer greater than order is the order of an unknown, None if one can be."""
    return own_waits_for(above(table, unknown, order), unknown)


def is_least_paper(table, unknown, order, thing):
    """Whether thing is own waits as those of least_paper."""
    return are_own_waits_for(below(table, unknown, order), table[0], thing)


def is_greatest_paper(table, unknown, order, thing):
    """Whether thing is own waits as those of greatest_paper."""
    return are_own_waits_for(above(table, unknown, order), unknown, thing)
