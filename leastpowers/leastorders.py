"""Which orders the unknowns of a table can have, and the least ones."""

from leastpowers.errors import NoOrders
from leastpowers.gaps import earliest_beside, gap_span, with_gap
from leastpowers.leastplan import barred_events, least_plan, with_waits
from leastpowers.plans import shifted
from leastpowers.tablewaits import system_of
from leastpowers.tellings import telling_for


def some_orders(table):
    """Orders that stand, None if none do."""
    return orders_with(table, {})


def orders_with(table, wanted):
    """Orders that stand, those of a dict from unknowns to orders among them; None if there are none."""
    right = table[0]
    system = system_of(table)
    for unknown in sorted(wanted):
        system = with_order(system, right, unknown, wanted[unknown])
    plan = least_plan(system)
    if plan[right] is None:
        return None
    return shifted(plan[:right], -plan[right])


def with_order(system, right, unknown, order):
    """The system of a table with the waits that let an unknown have just this order if the right sides have theirs."""
    if order is None:
        return with_waits(system, ((unknown, ()),))
    return with_gap(with_gap(system, right, unknown, order), unknown, right, -order)


def need_orders(table):
    """Raises NoOrders if no orders of a table stand."""
    if some_orders(table) is None:
        raise NoOrders()


def order_span(table, unknown):
    """The least and the greatest integer that an unknown's order can be, None if it can be none."""
    need_orders(table)
    system = system_of(table)
    if unknown in barred_events(system):
        return None
    return gap_span(system, table[0], unknown)


def may_be_none(table, unknown):
    """Whether the order of an unknown is None in some orders that stand."""
    need_orders(table)
    return orders_with(table, {unknown: None}) is not None


def least_at_once(table):
    """Orders that stand, in which all unknowns that have a least order have it."""
    need_orders(table)
    right = table[0]
    return earliest_beside(system_of(table), right)[:right]


def least_telling(table):
    """A telling, and an answer of it, in which all unknowns that have a least order have it."""
    return telling_for(table, least_at_once(table))
