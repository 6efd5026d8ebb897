"""The least plan of a system."""

from leastpowers.numbers import not_above
from leastpowers.plans import earliest_by


def least_plan(system):
    """The plan that keeps a system, without an order below 0, no order of which could be less."""
    plan, _ = least_and_chosen(system, (0,) * system[0])
    return plan


def least_and_chosen(system, floors):
    """The least plan without an order below its floor, and for each event the index of a wait that makes it so late.

    The index is None for an event that is not later than its floor. The waits of barred events
    have options among these alone, and each ring of them has delays of a sum above 0.
    """
    # Choosing the latest waits anew, instead of going up step by step, takes no longer if delays are great. It keeps
    # sums round rings of chosen waits above 0: an option gives no less than its event's order, and more where the
    # wait is a new one.
    chosen = [None] * system[0]
    plan = tuple(floors)
    later_waits = waits_not_kept(system, plan)
    while later_waits:
        chosen = [later_waits.get(event, index) for event, index in enumerate(chosen)]
        plan = plan_by_chosen(system, floors, chosen)
        later_waits = waits_not_kept(system, plan)
    return (plan, chosen)


def waits_not_kept(system, plan):
    """For each event of which a wait is not kept, the index of one by which it would be the latest."""
    latest = list(plan)
    found = {}
    for index, wait in enumerate(system[1]):
        event = wait[0]
        order = earliest_by(plan, wait)
        if not not_above(order, latest[event]):
            latest[event] = order
            found[event] = index
    return found


def plan_by_chosen(system, floors, chosen):
    """The plan in which each event is as late as its chosen wait alone wants it, or its floor if this is None."""
    many, waits = system
    plan = [floor if index is None else None for floor, index in zip(floors, chosen)]
    # No way from an event to a floor has more steps than there are events: rings only make it longer.
    for _ in range(many):
        for event, index in enumerate(chosen):
            if index is not None:
                plan[event] = earliest_by(plan, waits[index])
    return tuple(plan)


def barred_events(system):
    """The events that never happen in any plan that keeps a system."""
    return tuple([event for event, order in enumerate(least_plan(system)) if order is None])


def together(system, events):
    """Whether events happen together in some plan that keeps a system."""
    plan = least_plan(system)
    return all([plan[event] is not None for event in events])


def with_waits(system, more):
    """The system with a tuple of waits behind its own."""
    many, waits = system
    return (many, waits + more)


def without_waits(system, indexes):
    """The system without the waits at these indexes."""
    many, waits = system
    return (many, tuple([wait for index, wait in enumerate(waits) if index not in indexes]))
