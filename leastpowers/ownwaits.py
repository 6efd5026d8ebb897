"""Own waits, which show that events are barred."""

from leastpowers.forms import is_index, is_integer, is_plan, is_tuple_of
from leastpowers.leastplan import least_and_chosen, least_plan
from leastpowers.plans import keeps


def own_waits(system):
    """Own waits of a system whose keys are exactly the barred events."""
    plan, chosen = least_and_chosen(system, (0,) * system[0])
    return weights_for(system, {event: chosen[event] for event, order in enumerate(plan) if order is None})


def is_own_waits(system, thing):
    """Whether thing is own waits of a system."""
    if not isinstance(thing, dict):
        return False
    if not all([is_own_item(system, event, item) for event, item in thing.items()]):
        return False
    return all([is_before_options(system, thing, event) for event in thing])


def is_own_item(system, event, item):
    """Whether an item is the index of a wait of an event, and a weight."""
    many, waits = system
    if not is_index(many, event) or not is_tuple_of(2, item):
        return False
    index, weight = item
    return is_index(len(waits), index) and waits[index][0] == event and is_integer(weight)


def is_before_options(system, own, event):
    """Whether all options of the wait of an event are keys, and its weight is less than they ask for."""
    many, waits = system
    index, weight = own[event]
    for other, delay in waits[index][1]:
        if other not in own or weight >= own[other][1] + many * delay:
            return False
    return True


def own_waits_for(system, event):
    """Own waits of which an event is a key, None if it is not barred."""
    own = own_waits(system)
    return own if event in own else None


def are_own_waits_for(system, event, thing):
    """Whether thing is own waits of a system of which an event is a key."""
    return is_own_waits(system, thing) and event in thing


def weights_for(system, chosen):
    """Own waits with just the waits of a dict from events to indexes of waits, None if there are none."""
    waits = system[1]
    options = {event: waits[chosen[event]][1] for event in sorted(chosen)}
    for event in options:
        if not all([other in options for other, delay in options[event]]):
            return None
    weights = {event: 0 for event in options}
    # If weights still fall after as many rounds as there are events, they would without end, round some ring.
    for _ in range(len(options) + 1):
        lower = {event: lower_weight(system[0], weights, event, options[event]) for event in options}
        if lower == weights:
            return {event: (chosen[event], weights[event]) for event in options}
        weights = lower
    return None


def lower_weight(many, weights, event, options):
    """The greatest weight of an event that is not above the one it has, nor too much for its options."""
    return min([weights[event]] + [weights[other] + many * delay - 1 for other, delay in options])


def decision_of(system, event):
    """A plan in which an event happens, or own waits that bar it, behind the word that tells which."""
    plan = least_plan(system)
    if plan[event] is not None:
        return ("plan", plan)
    return ("own", own_waits(system))


def is_decision(system, event, thing):
    """Whether thing is a decision of an event of a system."""
    if not is_tuple_of(2, thing):
        return False
    word, paper = thing
    if word == "plan":
        return is_plan(system, paper) and keeps(system, paper) and paper[event] is not None
    return word == "own" and are_own_waits_for(system, event, paper)
