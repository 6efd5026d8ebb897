"""Slow answers, straight from the words of the document, for comparison."""

import itertools
import re

NATURAL = "(?:0|[1-9][0-9]{0,39})"
INTEGER = "(?:0|-?[1-9][0-9]{0,39})"
BOUNDS = rf"{INTEGER}(?:\.\.(?:{INTEGER}|none))?"
ROW = re.compile(rf"row((?: +{NATURAL}:{BOUNDS})*) += +(nothing|{BOUNDS})")
WAIT = re.compile(rf"wait +({NATURAL})((?: +{NATURAL}(?:\+{NATURAL}|-[1-9][0-9]{{0,39}}))*)")


def bounds_in(word):
    """Bounds, None if the greatest one is less than the least one."""
    low, _, high = word.partition("..")
    high = None if high == "none" else int(high or low)
    return None if high is not None and high < int(low) else (int(low), high)


def row_in(line, many):
    found = ROW.fullmatch(line)
    if not found:
        return None
    sides = [word.split(":") for word in found[1].split()]
    bounds = [bounds_in(word) for _, word in sides]
    right = None if found[2] == "nothing" else bounds_in(found[2])
    if None in bounds or (right is None and found[2] != "nothing") or any([int(unknown) >= many for unknown,
        _ in sides]):
        return None
    return (tuple([(int(side[0]), *pair) for side, pair in zip(sides, bounds)]), right)


def wait_in(line, many):
    found = WAIT.fullmatch(line)
    if not found:
        return None
    options = [(int(other), int(delay)) for other, delay in re.findall(r"([0-9]+)([+-][0-9]+)", found[2])]
    others = [other for other, _ in options]
    if len(set(others)) < len(others) or max([int(found[1]), *others]) >= many:
        return None
    return (int(found[1]), tuple(sorted(options)))


def read(text, name, part_in):
    """What a text shows, or the index of the line for which it can't be read."""
    many, parts = None, []
    for index, line in enumerate(text.split("\n")):
        line = line.split("#")[0].strip(" ")
        if line and many is None:
            found = re.fullmatch(rf"{name} +({NATURAL})", line)
            if not found or int(found[1]) > 100:
                return index
            many = int(found[1])
        elif line:
            parts.append(part_in(line, many))
            if parts[-1] is None:
                return index
    return text.count("\n") + 1 if many is None else (many, tuple(parts))


def keeps(system, plan):
    """Whether a plan keeps a system, by the definition."""
    for event, options in system[1]:
        if plan[event] is not None:
            if not [1 for other, delay in options if plan[other] is not None and plan[other] + delay <= plan[event]]:
                return False
    return True


def least_plan(system, floors=None):
    """The least plan above floors, one step after another, until what is too late never happens."""
    many, waits = system
    plan = list(floors or [0] * many)
    top = max([*plan, 0]) + many * max([0, *[delay for _, options in waits for _, delay in options]])
    changed = True
    while changed:
        changed = False
        for event, options in waits:
            orders = [plan[other] + delay for other, delay in options if plan[other] is not None]
            order = min(orders) if orders and min(orders) <= top else None
            if plan[event] is not None and (order is None or order > plan[event]):
                plan[event] = order
                changed = True
    return tuple(plan)


def plans(system, low, high):
    """All plans that keep a system, with orders from low to high, and None."""
    orders = [None, *range(low, high + 1)]
    return [plan for plan in itertools.product(orders, repeat=system[0]) if keeps(system, plan)]


def are_own_waits(system, own):
    """Whether a dict of plain integers is own waits of a system, by the definition."""
    many, waits = system
    for event, (index, weight) in own.items():
        if waits[index][0] != event:
            return False
        for other, delay in waits[index][1]:
            if other not in own or not weight < own[other][1] + many * delay:
                return False
    return True


def has_low_ring(system, chosen):
    """Whether chosen waits have a ring of delays of a sum that is not above 0."""
    def low_from(way, total):
        for other, delay in system[1][chosen[way[-1]]][1]:
            if other == way[0] and total + delay <= 0:
                return True
            if other > way[0] and other not in way and low_from([*way, other], total + delay):
                return True
        return False
    return any([low_from([event], 0) for event in chosen])


def is_cause(system, floors, event, cause):
    """Whether a list of plain integers is a cause, by the definition."""
    plan = least_plan(system, floors)
    if plan[event] is None:
        return False
    for head, index, tail in cause:
        if head != event or index not in range(len(system[1])) or system[1][index][0] != event:
            return False
        orders = {other: plan[other] + delay for other, delay in system[1][index][1] if plan[other] is not None}
        if tail not in orders or orders[tail] != min(orders.values()) or orders[tail] != plan[event]:
            return False
        event = tail
    return plan[event] == floors[event]


def causes(system, floors, event, most):
    """All causes of an event with at most so many items, one with fewer ahead of one with more."""
    plan = least_plan(system, floors)
    found, starts = [], [[]]
    for _ in range(most + 1):
        found += [start for start in starts if is_cause(system, floors, event, start)]
        longer = []
        for start in starts:
            head = start[-1][2] if start else event
            for index, (waiting, options) in enumerate(system[1]):
                longer += [[*start, (head, index, other)] for other, _ in options if waiting == head]
        # With the plan itself for floors, each start is a cause that may yet become one for the floors in question.
        starts = [start for start in longer if None not in plan and is_cause(system, plan, event, start)]
    return found
