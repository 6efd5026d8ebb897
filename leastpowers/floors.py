"""Least plans above floors, and why events are so late in them."""

from leastpowers.forms import is_integer, is_tuple_of
from leastpowers.leastplan import least_and_chosen
from leastpowers.numbers import later
from leastpowers.plans import earliest_by


def least_from(system, floors):
    """The plan that keeps a system, without an order below its floor, no order of which could be less."""
    plan, _ = least_and_chosen(system, floors)
    return plan


def cause_of(system, floors, event):
    """A shortest cause of an event, None if it is barred."""
    plan = least_from(system, floors)
    causes = {event: []}
    heads = [event]
    while heads:
        reached = []
        for head in heads:
            if plan[head] == floors[head]:
                return causes[head]
            for step in steps_from(system, plan, head):
                if step[2] not in causes:
                    causes[step[2]] = causes[head] + [step]
                    reached.append(step[2])
        heads = reached
    return None


def steps_from(system, plan, event):
    """The items of causes that lead on from an event: all waits and options that make it just as late as it is."""
    found = []
    for index, wait in enumerate(system[1]):
        if wait[0] == event and earliest_by(plan, wait) == plan[event]:
            others = [other for other, delay in wait[1] if later(plan[other], delay) == plan[event]]
            found.extend([(event, index, other) for other in others])
    return found


def is_cause(system, floors, event, thing):
    """Whether thing is a cause of an event, of any length."""
    if not isinstance(thing, list):
        return False
    plan = least_from(system, floors)
    head = event
    for step in thing:
        if not is_tuple_of(3, step) or not all([is_integer(part) for part in step]):
            return False
        if step not in steps_from(system, plan, head):
            return False
        head = step[2]
    return plan[head] == floors[head]
