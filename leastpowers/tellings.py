"""Numbers for a table, and what its unknowns are with them."""

from math import lcm

from leastpowers.forms import is_quotient, is_telling, is_tuple_of
from leastpowers.numbers import (
    ONE, later, least_order, less, quotient, quotient_order, term, times, total, total_of)
from leastpowers.plans import keeps
from leastpowers.tablewaits import system_of


def is_answer(table, telling, thing):
    """Whether thing is an answer of a telling."""
    many, rows = table
    if not is_tuple_of(many, thing) or not all([is_quotient(item) for item in thing]):
        return False
    for (sides, _), told in zip(rows, telling):
        if not is_right(sides, told, thing):
            return False
    return True


def is_right(sides, told, answer):
    """Whether the sum of the sides of a row is its right number."""
    numbers, right = told
    # Numbers over one den are added first: each den more makes the sum of all quotients longer.
    nums = {ONE: less((), right)}
    for side, number in zip(sides, numbers):
        num, den = answer[side[0]]
        nums[den] = total([nums.get(den, ()), times(number, num)])
    rest = total_of([whole(nums[den], den) for den in nums if nums[den] != ()])
    return rest[0] == ()


def whole(num, den):
    """The quotient num / den with factors that are integers, with which long products are quick."""
    by = 1
    for _, factor in num + den:
        by = lcm(by, factor[1])
    scale = term(0, (by, 1))
    return quotient(times(scale, num), times(scale, den))


def orders_of(answer):
    """The orders of quotients."""
    return tuple([quotient_order(one) for one in answer])


def telling_for(table, orders):
    """A telling, and an answer of it with these orders; None if they do not stand."""
    if not keeps(system_of(table), orders + (0,)):
        return None
    answer = tuple([quotient(power_of(order), ONE) for order in orders])
    return (tuple([row_telling(row, orders) for row in table[1]]), answer)


def power_of(order):
    """The number e ** order, 0 if this is None."""
    return () if order is None else term(order, (1, 1))


def row_telling(row, orders):
    """Numbers within the bounds of a row that make it right if the unknowns are powers of orders that stand."""
    sides, right = row
    parts = [(orders[unknown], least) for unknown, least, _ in sides]
    if right is not None:
        parts.append((0, right[0]))
    numbers = balanced(parts)
    if right is None:
        return (tuple(numbers), ())
    return (tuple(numbers[:-1]), less((), numbers[-1]))


def balanced(parts):
    """For each tuple (order, least) a number of at least this order, such that all, times e ** order, come to 0."""
    # Each number but the first one has its least order and the factor 1, so that none of them cancel. The first one
    # makes up for all others: it reaches the second least power of all, which is not below its own least one, nor,
    # as the orders stand, above its own greatest one.
    reached = [later(order, least) for order, least in parts]
    numbers = [term(least, (1, 1)) for order, least in parts]
    if least_order(reached) is None:
        return numbers
    first = reached.index(least_order(reached))
    others = total([power_of(power) for at, power in enumerate(reached) if at != first])
    order = parts[first][0]
    numbers[first] = times(term(-order, (-1, 1)), others)
    return numbers


def is_shown(table, orders, thing):
    """Whether thing is a telling, and an answer of it with these orders."""
    if not is_tuple_of(2, thing):
        return False
    telling, answer = thing
    return is_telling(table, telling) and is_answer(table, telling, answer) and orders_of(answer) == orders
