"""Which waits follow from a system."""

from leastpowers.leastplan import least_plan, with_waits
from leastpowers.ownwaits import are_own_waits_for, own_waits_for


def contrary(system, wait):
    """The system with the waits behind its own that keep the wait's event, if it happens, ahead of all its options."""
    event, options = wait
    return with_waits(system, tuple([(other, ((event, 1 - delay),)) for other, delay in options]))


def follows(system, wait):
    """Whether each plan that keeps a system keeps a wait."""
    return counter_plan(system, wait) is None


def counter_plan(system, wait):
    """A plan that keeps a system and not a wait, None if there is none."""
    plan = least_plan(contrary(system, wait))
    return None if plan[wait[0]] is None else plan


def follow_paper(system, wait):
    """Own waits that show that a wait follows, None if it does not."""
    return own_waits_for(contrary(system, wait), wait[0])


def is_follow_paper(system, wait, thing):
    """Whether thing is own waits that show that a wait follows."""
    return are_own_waits_for(contrary(system, wait), wait[0], thing)
