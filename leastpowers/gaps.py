"""By how much one event can be later than another one."""

from leastpowers.errors import NoPlan
from leastpowers.floors import least_from
from leastpowers.leastplan import barred_events, least_plan, with_waits
from leastpowers.ownwaits import own_waits_for


def with_gap(system, one, other, gap):
    """The system with the wait behind all others that lets other happen only a gap later than one."""
    return with_waits(system, ((other, ((one, gap),)),))


def gap_span(system, one, other):
    """The least and the greatest gap of two events in all plans that keep a system, None for without end."""
    barred = barred_events(system)
    for event in (one, other):
        if event in barred:
            raise NoPlan(event)
    back = greatest_gap(system, other, one)
    return (None if back is None else -back, greatest_gap(system, one, other))


def greatest_gap(system, one, other):
    """The greatest gap of two events that are not barred, None for without end."""
    gap = -earliest_beside(system, other)[one]
    return gap if gap <= farthest(system) else None


def earliest_beside(system, event):
    """The plan in which an event that is not barred happens at 0, and each other one as early as it can beside it.

    One that can be ever earlier is ahead of it by more than farthest tells.
    """
    # With floors so low for all others, one of them is late only because of this event; or else it comes near to its
    # floor, and would to each lower one.
    floors = [-2 * farthest(system) - 1] * system[0]
    floors[event] = 0
    return least_from(system, floors)


def farthest(system):
    """The greatest size that an end of a gap can have."""
    return system[0] * greatest_size(system)


def greatest_size(system):
    """The greatest size of a delay of a system, 0 if there is none."""
    return max([abs(delay) for wait in system[1] for other, delay in wait[1]], default=0)


def plan_with_gap(system, one, other, gap):
    """A plan that keeps a system and has just this gap of two events, None if there is none."""
    plan = least_plan(with_gap(with_gap(system, one, other, gap), other, one, -gap))
    return None if plan[one] is None else plan


def gap_paper(system, one, other, gap):
    """Own waits that show that no plan has so great a gap, None if there are none."""
    return own_waits_for(with_gap(system, one, other, gap), other)
