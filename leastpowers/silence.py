"""Whether 0 is the only answer of a table whose right sides are all 0."""

from itertools import combinations

from leastpowers.errors import NotSilent, TooMany
from leastpowers.leastplan import barred_events, least_plan
from leastpowers.tables import ordered_rows, without_rights
from leastpowers.tablewaits import system_of

MOST_ROWS = 8


def silent_system(table):
    """The system of a table without its right sides: nothing waits for these, nor they for anything."""
    return system_of(without_rights(table))


def is_silent(table):
    """Whether no orders but those that are all None stand."""
    return loud_orders(table) is None


def loud_orders(table):
    """Orders, not all None, that stand; None if there are none."""
    many = table[0]
    orders = least_plan(silent_system(table))[:many]
    return None if orders == (None,) * many else orders


def need_silent(table):
    """Raises NotSilent if a table is not silent."""
    orders = loud_orders(table)
    if orders is not None:
        raise NotSilent(orders)


def barred_unknowns(table):
    """The unknowns whose order is None in all orders that stand."""
    return barred_events(silent_system(table))


def silent_lots(table):
    """The least lots of rows that make a table silent."""
    many, rows = table
    if len(rows) > MOST_ROWS:
        raise TooMany(MOST_ROWS)
    # A silent table has an own row for each unknown, all unlike; and these alone make it silent.
    return [lot for lot in lots_of(len(rows), many) if is_silent(ordered_rows(table, lot))]


def lots_of(many, size):
    """The lots of a size of so many rows, ascending."""
    return list(combinations(range(many), size))
