"""Slow answers, straight from the words of the document, for comparison."""

import fractions
import itertools
import re

NATURAL = "(?:0|[1-9][0-9]{0,39})"
INTEGER = "(?:0|-?[1-9][0-9]{0,39})"
BOUNDS = rf"{INTEGER}(?:\.\.(?:{INTEGER}|none))?"
ROW = re.compile(rf"row((?: +{NATURAL}:{BOUNDS})*) += +(nothing|{BOUNDS})")
WAIT = re.compile(rf"wait +({NATURAL})((?: +{NATURAL}(?:\+{NATURAL}|-[1-9][0-9]{{0,39}}))*)")


def bounds_in(word):
    """Bounds, None if the greatest one is less than the least one."""
    low, _, high = word.partition("..")
    high = None if high == "none" else int(high or low)
    return None if high is not None and high < int(low) else (int(low), high)


def row_in(line, many):
    found = ROW.fullmatch(line)
    if not found:
        return None
    sides = [word.split(":") for word in found[1].split()]
    bounds = [bounds_in(word) for _, word in sides]
    right = None if found[2] == "nothing" else bounds_in(found[2])
    if None in bounds or (right is None and found[2] != "nothing") or any([int(unknown) >= many for unknown,
        _ in sides]):
        return None
    return (tuple([(int(side[0]), *pair) for side, pair in zip(sides, bounds)]), right)


def wait_in(line, many):
    found = WAIT.fullmatch(line)
    if not found:
        return None
    options = [(int(other), int(delay)) for other, delay in re.findall(r"([0-9]+)([+-][0-9]+)", found[2])]
    others = [other for other, _ in options]
    if len(set(others)) < len(others) or max([int(found[1]), *others]) >= many:
        return None
    return (int(found[1]), tuple(sorted(options)))


def read(text, name, part_in):
    """What a text shows, or the index of the line for which it can't be read."""
    many, parts = None, []
    for index, line in enumerate(text.split("\n")):
        line = line.split("#")[0].strip(" ")
        if line and many is None:
            found = re.fullmatch(rf"{name} +({NATURAL})", line)
            if not found or int(found[1]) > 100:
                return index
            many = int(found[1])
        elif line:
            parts.append(part_in(line, many))
            if parts[-1] is None:
                return index
    return text.count("\n") + 1 if many is None else (many, tuple(parts))


def keeps(system, plan):
    """Whether a plan keeps a system, by the definition."""
    for event, options in system[1]:
        if plan[event] is not None:
            if not [1 for other, delay in options if plan[other] is not None and plan[other] + delay <= plan[event]]:
                return False
    return True


def least_plan(system, floors=None):
    """The least plan above floors, one step after another, until what is too late never happens."""
    many, waits = system
    plan = list(floors or [0] * many)
    top = max([*plan, 0]) + many * max([0, *[delay for _, options in waits for _, delay in options]])
    changed = True
    while changed:
        changed = False
        for event, options in waits:
            orders = [plan[other] + delay for other, delay in options if plan[other] is not None]
            order = min(orders) if orders and min(orders) <= top else None
            if plan[event] is not None and (order is None or order > plan[event]):
                plan[event] = order
                changed = True
    return tuple(plan)


def plans(system, low, high):
    """All plans that keep a system, with orders from low to high, and None."""
    orders = [None, *range(low, high + 1)]
    return [plan for plan in itertools.product(orders, repeat=system[0]) if keeps(system, plan)]


def are_own_waits(system, own):
    """Whether a dict of plain integers is own waits of a system, by the definition."""
    many, waits = system
    for event, (index, weight) in own.items():
        if waits[index][0] != event:
            return False
        for other, delay in waits[index][1]:
            if other not in own or not weight < own[other][1] + many * delay:
                return False
    return True


def has_low_ring(system, chosen):
    """Whether chosen waits have a ring of delays of a sum that is not above 0."""
    def low_from(way, total):
        for other, delay in system[1][chosen[way[-1]]][1]:
            if other == way[0] and total + delay <= 0:
                return True
            if other > way[0] and other not in way and low_from([*way, other], total + delay):
                return True
        return False
    return any([low_from([event], 0) for event in chosen])


def is_cause(system, floors, event, cause):
    """Whether a list of plain integers is a cause, by the definition."""
    plan = least_plan(system, floors)
    if plan[event] is None:
        return False
    for head, index, tail in cause:
        if head != event or index not in range(len(system[1])) or system[1][index][0] != event:
            return False
        orders = {other: plan[other] + delay for other, delay in system[1][index][1] if plan[other] is not None}
        if tail not in orders or orders[tail] != min(orders.values()) or orders[tail] != plan[event]:
            return False
        event = tail
    return plan[event] == floors[event]


def causes(system, floors, event, most):
    """All causes of an event with at most so many items, one with fewer ahead of one with more."""
    plan = least_plan(system, floors)
    found, starts = [], [[]]
    for _ in range(most + 1):
        found += [start for start in starts if is_cause(system, floors, event, start)]
        longer = []
        for start in starts:
            head = start[-1][2] if start else event
            for index, (waiting, options) in enumerate(system[1]):
                longer += [[*start, (head, index, other)] for other, _ in options if waiting == head]
        # With the plan itself for floors, each start is a cause that may yet become one for the floors in question.
        starts = [start for start in longer if None not in plan and is_cause(system, plan, event, start)]
    return found


def top_of(system, further=()):
    """An order that no least plan of a system with further waits, and with what is contrary to them, goes beyond."""
    delays = [abs(delay) + 1 for _, options in [*system[1], *further] for _, delay in options]
    return system[0] * max(delays, default=0)


def follows(system, wait):
    """Whether all plans that keep a system, up to where one would be that does not, keep a wait."""
    alone = (system[0], (wait,))
    return all([keeps(alone, plan) for plan in plans(system, 0, top_of(system, [wait]))])


def same_plans(one, other):
    """Whether the same plans keep two systems."""
    return all([follows(one, wait) for wait in other[1]]) and all([follows(other, wait) for wait in one[1]])


def low_high(bounds):
    """LOW and HIGH of bounds, by the definition."""
    low = min([least for least, _ in bounds])
    ends = [greatest for _, greatest in bounds if greatest is not None]
    high = min(ends, default=None)
    at = [greatest for _, greatest in bounds].index(high)
    others = [least for place, (least, _) in enumerate(bounds) if place != at]
    return (low, high if high is not None and all([least > high for least in others]) else None)


def placed_waits(table):
    """The tuples (row, wait) of the system of a table, by the definition."""
    many, rows = table
    found = []
    for row, (sides, right) in enumerate(rows):
        there = {}
        for unknown, least, greatest in sides:
            there.setdefault(unknown, []).append((least, greatest))
        ends = {unknown: low_high(bounds) for unknown, bounds in there.items()}
        if right is not None:
            ends[many] = right
        for event in range(many + 1):
            if event in ends and ends[event][1] is not None:
                others = [other for other in range(many + 1) if other in ends and other != event]
                found.append((row, (event, tuple([(other, ends[other][0] - ends[event][1]) for other in others]))))
    return found


def stands(table, orders):
    """Whether in each row each side that can't be 0, and whose unknown is not, can have its like in another one."""
    for sides, right in table[1]:
        spans = [(orders[unknown], *bounds) for unknown, *bounds in sides if orders[unknown] is not None]
        if right is not None:
            spans.append((0, *right))
        for place, (order, _, greatest) in enumerate(spans):
            others = [by + least for at, (by, least, _) in enumerate(spans) if at != place]
            if greatest is not None and not [1 for other in others if other <= order + greatest]:
                return False
    return True


def added(one, other):
    """The sum of two numbers that are dicts from powers to fractions."""
    found = {power: one.get(power, 0) + other.get(power, 0) for power in [*one, *other]}
    return {power: factor for power, factor in found.items() if factor}


def product(one, other):
    found = {}
    for power, factor in one.items():
        found = added(found, {power + by: factor * share for by, share in other.items()})
    return found


def plain(number):
    """A number as a dict from powers to fractions."""
    return {power: fractions.Fraction(*factor) for power, factor in number}


def is_answer(table, telling, answer):
    """Whether quotients are an answer, all sides being brought to one den."""
    for (sides, _), (numbers, right) in zip(table[1], telling):
        dens = [plain(answer[unknown][1]) for unknown, _, _ in sides]
        parts = [product(plain(number), plain(answer[side[0]][0])) for side, number in zip(sides, numbers)]
        parts.append(product({0: fractions.Fraction(-1)}, plain(right)))
        whole = {}
        for place, part in enumerate(parts):
            for at, den in enumerate(dens):
                part = product(part, den) if at != place else part
            whole = added(whole, part)
        if whole:
            return False
    return True


def silent(table):
    """The table with all right sides None."""
    return (table[0], tuple([(sides, None) for sides, _ in table[1]]))


def loud_plans(table):
    """All orders, not all None, from 0 to where there are some if there are any, that stand without right sides."""
    table = silent(table)
    delays = [delay for _, (_, options) in placed_waits(table) for _, delay in options]
    orders = [None, *range(table[0] * max([0, *delays]) + 1)]
    found = [tried for tried in itertools.product(orders, repeat=table[0]) if stands(table, tried)]
    return [tried for tried in found if tried != (None,) * table[0]]


def are_own_rows(table, rows, weights):
    """Whether tuples of plain integers, rows being indexes, are own rows, by the definition."""
    many = table[0]
    for unknown, row in enumerate(rows):
        ends = {}
        for other in range(many):
            bounds = [side[1:] for side in table[1][row][0] if side[0] == other]
            if bounds:
                ends[other] = low_high(bounds)
        if unknown not in ends or ends[unknown][1] is None:
            return False
        for other in ends:
            if other != unknown:
                if not weights[unknown] < weights[other] + (many + 1) * (ends[other][0] - ends[unknown][1]):
                    return False
    return True


def determinant(table, telling):
    """The determinant of a telling of a table with as many rows as unknowns, as a dict from powers to fractions."""
    many = table[0]
    cells = [[{} for _ in range(many)] for _ in range(many)]
    for row, ((sides, _), (numbers, _)) in enumerate(zip(table[1], telling)):
        for side, number in zip(sides, numbers):
            cells[row][side[0]] = added(cells[row][side[0]], plain(number))
    whole = {}
    for order in itertools.permutations(range(many)):
        turns = [1 for one, other in itertools.combinations(order, 2) if one > other]
        part = {0: fractions.Fraction((-1) ** len(turns))}
        for row, unknown in enumerate(order):
            part = product(part, cells[row][unknown])
        whole = added(whole, part)
    return whole
