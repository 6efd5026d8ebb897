"""Tables in which the same orders stand."""

from leastpowers.following import contrary
from leastpowers.leastplan import least_plan
from leastpowers.plans import shifted
from leastpowers.tables import without_row
from leastpowers.tablewaits import system_of


def parting_orders(one, other):
    """Orders that stand in one of two tables alone, behind the place of this one; None if the same stand in both."""
    for place, (standing, fallen) in enumerate([(one, other), (other, one)]):
        orders = orders_apart(standing, fallen)
        if orders is not None:
            return (place, orders)
    return None


def orders_apart(standing, fallen):
    """Orders that stand in one table and not in another one, None if there are none."""
    right = standing[0]
    system = system_of(standing)
    for wait in system_of(fallen)[1]:
        plan = least_plan(contrary(system, wait))
        # What happens in the least plan happens together: here the right sides have to as well as the wait's event.
        if plan[wait[0]] is not None and plan[right] is not None:
            return shifted(plan[:right], -plan[right])
    return None


def stand_alike(one, other):
    """Whether the same orders stand in two tables."""
    return parting_orders(one, other) is None


def needless_rows(table):
    """The indexes of the rows without any single one of which the same orders stand."""
    return [index for index in range(len(table[1])) if stand_alike(table, without_row(table, index))]


def spare_table(table):
    """What is left of a table if each row without which the same orders stand is left out, the last ones first."""
    spare = table
    for index in reversed(range(len(table[1]))):
        if stand_alike(spare, without_row(spare, index)):
            spare = without_row(spare, index)
    return spare
