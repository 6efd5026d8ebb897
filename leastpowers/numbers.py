"""Adds, multiplies and compares numbers, quotients and orders."""

from math import gcd

from leastpowers.errors import NoQuotient

ONE = ((0, (1, 1)),)


def fraction_of(num, den):
    """The fraction num / den, den being above 0, in lowest terms."""
    common = gcd(num, den)
    return (num // common, den // common)


def fraction_total(one, other):
    """The sum of two fractions."""
    return fraction_of(one[0] * other[1] + other[0] * one[1], one[1] * other[1])


def fraction_times(one, other):
    """The product of two fractions."""
    return fraction_of(one[0] * other[0], one[1] * other[1])


def number_of(factors):
    """The number with the factors of a dict, from powers to fractions, some perhaps 0."""
    return tuple([(power, factors[power]) for power in sorted(factors) if factors[power][0] != 0])


def term(power, factor):
    """The number factor * e ** power."""
    return number_of({power: factor})


def order_of(number):
    """The power of the first term, None of 0."""
    return number[0][0] if number else None


def leading_of(number):
    """The factor of the first term, None of 0."""
    return number[0][1] if number else None


def total(numbers):
    """The sum of numbers."""
    factors = {}
    for number in numbers:
        for power, factor in number:
            factors[power] = fraction_total(factors.get(power, (0, 1)), factor)
    return number_of(factors)


def less(one, other):
    """The number one without other."""
    return total([one, times(((0, (-1, 1)),), other)])


def times(one, other):
    """The product of two numbers."""
    factors = {}
    for power, factor in one:
        for by, share in other:
            part = fraction_times(factor, share)
            factors[power + by] = fraction_total(factors.get(power + by, (0, 1)), part)
    return number_of(factors)


def quotient(num, den):
    """The quotient of two numbers."""
    if den == ():
        raise NoQuotient()
    return (num, den)


def quotient_order(one):
    """The order of num less that of den."""
    num, den = one
    return later(order_of(num), -order_of(den))


def are_equal(one, other):
    """Whether two quotients stand for the same."""
    return times(one[0], other[1]) == times(other[0], one[1])


def total_of(quotients):
    """A quotient that is the sum of quotients."""
    num, den = (), ONE
    for more, below in quotients:
        # A den in common is kept as it is: sums of many quotients would grow without need.
        if below == den:
            num = total([num, more])
        else:
            num = total([times(num, below), times(more, den)])
            den = times(den, below)
    return (num, den)


def times_of(one, other):
    """A quotient that is the product of two."""
    return (times(one[0], other[0]), times(one[1], other[1]))


def over_of(one, other):
    """A quotient that is the quotient of two."""
    if other[0] == ():
        raise NoQuotient()
    return (times(one[0], other[1]), times(one[1], other[0]))


def later(order, delay):
    """The order that is delay more."""
    return None if order is None else order + delay


def not_above(one, other):
    """Whether an order is not greater than another one."""
    if other is None:
        return True
    return one is not None and one <= other


def least_order(orders):
    """The least of orders, None of none."""
    return min([order for order in orders if order is not None], default=None)


def least_items(one, other):
    """The tuple of the lesser items of two tuples of orders."""
    return tuple([least_order(pair) for pair in zip(one, other)])
