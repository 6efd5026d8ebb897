"""Whether plans keep systems."""

from leastpowers.numbers import later, least_order, not_above


def earliest_by(plan, wait):
    """The least order that a plan lets the event of a wait have by this wait, None for never."""
    return least_order([later(plan[other], delay) for other, delay in wait[1]])


def keeps_wait(plan, wait):
    """Whether a plan keeps a wait."""
    return not_above(earliest_by(plan, wait), plan[wait[0]])


def keeps(system, plan):
    """Whether a plan keeps all waits of a system."""
    return unkept(system, plan) == []


def unkept(system, plan):
    """The indexes of the waits of a system that a plan does not keep."""
    return [index for index, wait in enumerate(system[1]) if not keeps_wait(plan, wait)]


def shifted(plan, by):
    """The plan with an integer more for each event."""
    return tuple([later(order, by) for order in plan])
