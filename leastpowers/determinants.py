"""The determinant of a table, and what its own rows tell of it."""

from math import lcm

from leastpowers.errors import NotExact, NotSquare
from leastpowers.numbers import (
    fraction_of, fraction_times, later, leading_of, least_order, less, number_of, order_of, total)
from leastpowers.ownrows import own_rows
from leastpowers.silence import need_silent
from leastpowers.tables import low_high
from leastpowers.tablewaits import system_of, wait_places


def need_square(table):
    """Raises NotSquare if a table has more or fewer rows than unknowns."""
    many, rows = table
    if len(rows) != many:
        raise NotSquare()


def need_regular(table):
    """Raises NotSquare, or else NotSilent, if a table is not square, or not silent."""
    need_square(table)
    need_silent(table)


def rows_of_own(table):
    """The row of each unknown in own rows of a table, which is square and silent, or an error is raised."""
    need_regular(table)
    return own_rows(table)[0]


def rows_of_exact(table):
    """The row of each unknown in own rows of a table, which is exact as well, or an error is raised."""
    rows = rows_of_own(table)
    for index, row in enumerate(table[1]):
        if not is_exact(row):
            raise NotExact(index)
    return rows


def is_exact(row):
    """Whether all bounds of a row are alike, and no unknown has two sides in it."""
    sides, right = row
    if right is not None and right[0] != right[1]:
        return False
    unknowns = [unknown for unknown, least, greatest in sides if least == greatest]
    return len(set(unknowns)) == len(sides)


def own_options(table, rows):
    """For each unknown the delays of the other ones, and of the right side behind these, in its own row, as a dict."""
    places, waits = wait_places(table), system_of(table)[1]
    return [dict(waits[places.index((row, unknown))][1]) for unknown, row in enumerate(rows)]


def shortest_ways(options, target):
    """For each event the least sum of delays on a way of a step or more to a target, None if there is none."""
    ways = [None] * (len(options) + 1)
    # No shortest way has more steps than there are unknowns: the sums round rings are above 0.
    for _ in options:
        ends = with_end(ways, target)
        steps = [[later(ends[other], delay) for other, delay in own.items()] for own in options]
        ways = [least_order(lengths) for lengths in steps] + [None]
    return ways


def with_end(ways, target):
    """The ways with 0 for the target itself."""
    return [0 if event == target else way for event, way in enumerate(ways)]


def determinant_span(table):
    """The least and the greatest order that the determinant has in tellings."""
    ends = [low_high(table, row, unknown) for unknown, row in enumerate(rows_of_own(table))]
    return (sum([low for low, high in ends]), sum([high for low, high in ends]))


def own_gap(table):
    """The least sum of delays round a ring of unknowns by their own rows, None if there is no ring."""
    options = own_options(table, rows_of_exact(table))
    return least_order([shortest_ways(options, unknown)[unknown] for unknown in range(len(options))])


def cells_of(table, telling):
    """For each row a dict from the unknowns that are there to the sums of the numbers of their sides."""
    return [cells_of_row(row, told) for row, told in zip(table[1], telling)]


def cells_of_row(row, told):
    """The dict from the unknowns that are there in a row to the sums of the numbers of their sides."""
    numbers = {}
    for side, number in zip(row[0], told[0]):
        numbers[side[0]] = total([numbers.get(side[0], ()), number])
    return numbers


def minors_of(rows):
    """The determinants of all lots of as many columns as rows, as numbers; what is 0 may lack.

    A row is a dict from columns to numbers, a lot an integer with a bit for each of its columns.
    """
    # Sums and products are quick with integers: each row is multiplied by its dens, and the determinants, in the end,
    # are divided by all of these.
    minors = {0: {0: 1}}
    scale = 1
    for cells in rows:
        by = common_den(list(cells.values()))
        scale = scale * by
        minors = longer_minors(minors, {column: whole(number, by) for column, number in cells.items()})
    return {lot: over_scale(minors[lot], scale) for lot in minors}


def common_den(numbers):
    """The least common multiple of all dens of the factors of numbers."""
    by = 1
    for number in numbers:
        for _, factor in number:
            by = lcm(by, factor[1])
    return by


def whole(number, by):
    """The factors of a number, multiplied by a multiple of their dens, as a dict from powers to integers."""
    return {power: num * (by // den) for power, (num, den) in number}


def over_scale(factors, scale):
    """The number with integers, divided by a scale, as its factors."""
    return number_of({power: fraction_of(factors[power], scale) for power in factors})


def longer_minors(minors, cells):
    """The minors with one row more, a dict from columns to numbers as dicts, below them."""
    longer = {}
    for lot, minor in minors.items():
        for column, number in cells.items():
            if (lot >> column) & 1 == 0:
                factors = longer.setdefault(lot | (1 << column), {})
                add_product(factors, minor, number, sign_behind(lot, column))
    return longer


def sign_behind(lot, column):
    """The sign that a column has behind a lot of columns: -1 if it ought to stand ahead of an odd number of them."""
    behind = [at for at in range(column, lot.bit_length()) if (lot >> at) & 1]
    return -1 if len(behind) % 2 else 1


def add_product(factors, one, other, sign):
    """Adds the product of two numbers, as dicts, with a sign to the factors of a third one."""
    for by, share in other.items():
        signed = sign * share
        for power, factor in one.items():
            factors[power + by] = factors.get(power + by, 0) + signed * factor


def all_columns(many):
    """The lot of the columns of so many unknowns."""
    return (1 << many) - 1


def determinant_of(table, telling):
    """The determinant of a telling."""
    need_regular(table)
    return minors_of(cells_of(table, telling))[all_columns(table[0])]


def lead_of(table, telling):
    """The order of the determinant and its leading factor, from the own rows alone."""
    rows = rows_of_own(table)
    cells = cells_of(table, telling)
    power, factor = 0, (1, 1)
    lot = 0
    for unknown, row in enumerate(rows):
        number = cells[row][unknown]
        power = power + order_of(number)
        factor = fraction_times(fraction_times(factor, leading_of(number)), (sign_behind(lot, row), 1))
        lot = lot | (1 << row)
    return (power, factor)


def answer_of(table, telling):
    """The one answer of a telling, with the determinant as all dens."""
    need_regular(table)
    rows = cells_of(table, telling)
    return solved([{**cells, table[0]: right} for cells, (_, right) in zip(rows, telling)])


def solved(rows):
    """The quotients that make rows right: dicts to numbers from as many unknowns, and from the right side behind."""
    many = len(rows)
    minors = minors_of(rows)
    den = minors[all_columns(many)]
    nums = [minors.get(all_columns(many + 1) - (1 << unknown), ()) for unknown in range(many)]
    # In these the right side stands behind all unknowns, not in the place of the one that lacks.
    turned = [less((), num) if (many - unknown) % 2 == 0 else num for unknown, num in enumerate(nums)]
    return tuple([(num, den) for num in turned])
