"""The forms of the package once more, in other words, for comparison."""

from fractions import Fraction


class Bad(Exception):
    pass


def need(truth):
    if not truth:
        raise Bad()


def told(check, *args):
    """Whether a check goes through."""
    try:
        check(*args)
    except Bad:
        return False
    return True


def items(thing, many=None):
    need(type(thing) is tuple)
    need(many is None or len(thing) == many)
    return thing


def integer(thing):
    need(type(thing) is int)
    return thing


def order(thing):
    need(thing is None or type(thing) is int)


def fraction(thing):
    num, den = items(thing, 2)
    need(integer(den) >= 1)
    integer(num)
    exact = Fraction(num, den)
    need((exact.numerator, exact.denominator) == (num, den))


def number(thing):
    powers = []
    for one in items(thing):
        power, factor = items(one, 2)
        powers.append(integer(power))
        fraction(factor)
        need(factor[0] != 0)
    need(sorted(set(powers)) == powers)


def quotient(thing):
    num, den = items(thing, 2)
    number(num)
    number(den)
    need(len(den) > 0)


def bounds(thing):
    least, greatest = items(thing, 2)
    integer(least)
    if greatest is not None:
        need(integer(greatest) >= least)


def index(many, thing):
    need(integer(thing) in range(many))


def wait(many, thing):
    event, options = items(thing, 2)
    index(many, event)
    others = []
    for option in items(options):
        other, delay = items(option, 2)
        index(many, other)
        integer(delay)
        others.append(other)
    need(sorted(set(others)) == others)


def system(thing):
    many, waits = items(thing, 2)
    need(integer(many) >= 0)
    for one in items(waits):
        wait(many, one)


def plan(of, thing):
    for one in items(thing, of[0]):
        order(one)


def table(thing):
    many, rows = items(thing, 2)
    need(integer(many) >= 0)
    for row in items(rows):
        sides, right = items(row, 2)
        for side in items(sides):
            unknown, least, greatest = items(side, 3)
            index(many, unknown)
            bounds((least, greatest))
        if right is not None:
            bounds(right)


def within(least, greatest, thing):
    number(thing)
    first = thing[0][0] if thing else None
    if first is None:
        need(greatest is None)
    else:
        need(first >= least)
        need(greatest is None or first <= greatest)


def telling(of, thing):
    for (sides, right), row in zip(of[1], items(thing, len(of[1]))):
        numbers, last = items(row, 2)
        for side, one in zip(sides, items(numbers, len(sides))):
            within(side[1], side[2], one)
        if right is None:
            items(last, 0)
        else:
            within(right[0], right[1], last)
