"""How many own tones are above an order."""

from leastpowers.determinants import all_columns, cells_of, minors_of, need_square
from leastpowers.errors import CanBe
from leastpowers.numbers import least_order, less, order_of, term
from leastpowers.tables import low_high
from leastpowers.tones import no_tone, tone_orders


def tones_above(table, s):
    """How many own tones of an order above s each telling has."""
    orders = tone_orders(table, s)
    if orders is not None:
        raise CanBe(orders)
    rows, _ = no_tone(table, s)
    return len([unknown for unknown, row in enumerate(rows) if row == unknown and is_above(table, unknown, s)])


def is_above(table, unknown, s):
    """Whether an unknown has no side in its row, the one with its index, or only sides above s."""
    ends = low_high(table, unknown, unknown)
    return ends is None or ends[0] * s[1] > s[0]


def polynomial_of(table, telling):
    """The factors of the powers of c, from 0 on, in the determinant with c taken from all numbers (i, i)."""
    need_square(table)
    many = table[0]
    rows = cells_of(table, telling)
    # A power of e that is so great stands for c: what is below it can't be taken for it, nor for a part of it.
    size = sum([greatest_size(list(cells.values())) for cells in rows])
    width = 2 * size + 1
    c = term(width, (1, 1))
    rows = [{**cells, index: less(cells.get(index, ()), c)} for index, cells in enumerate(rows)]
    determinant = minors_of(rows)[all_columns(many)]
    factors = [[] for _ in range(many + 1)]
    for power, factor in determinant:
        times_c = (power + size) // width
        factors[times_c].append((power - times_c * width, factor))
    return [tuple(number) for number in factors]


def greatest_size(numbers):
    """The greatest size of a power of numbers, 0 if all are 0."""
    return max([abs(power) for number in numbers for power, _ in number], default=0)


def roots_above(polynomial, s):
    """How many roots of a polynomial have an order above s."""
    num, den = s
    # All of them are multiplied by den, so that there are no fractions.
    scaled = [None if number == () else order_of(number) * den + at * num for at, number in enumerate(polynomial)]
    return scaled.index(least_order(scaled))
