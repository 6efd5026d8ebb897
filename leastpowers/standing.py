"""Whether orders of a table stand."""

from leastpowers.plans import unkept
from leastpowers.tablewaits import system_of, wait_places


def stands(table, orders):
    """Whether some telling has an answer with these orders."""
    return lonely_side(table, orders) is None


def lonely_side(table, orders):
    """The first (row, event) whose sides would be alone with the least order in the row, None if orders stand."""
    alone = unkept(system_of(table), orders + (0,))
    return wait_places(table)[alone[0]] if alone else None
