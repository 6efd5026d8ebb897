"""What tables tell of real numbers as soon as e is small."""

from leastpowers.determinants import common_den, solved
from leastpowers.forms import is_fraction, is_tuple_of
from leastpowers.formulas import sure_by
from leastpowers.numbers import fraction_of, fraction_times, fraction_total, leading_of, term
from leastpowers.ownrows import own_rows
from leastpowers.walks import shortest


def small_of(table, size):
    """The greatest fraction that small may be."""
    sides = max([len(sides) for sides, _ in table[1]], default=0)
    return (1, (sides + 1) * size * size)


def worth_of(number, at):
    """The fraction that a number is if e is one."""
    if number == ():
        return (0, 1)
    least, greatest = number[0][0], number[-1][0]
    by = common_den([number])
    # All terms are brought to one den, so that long integers are put in lowest terms only once.
    nums = [factor[0] * (by // factor[1]) * integer_power(at[0], power - least) * integer_power(at[1], greatest - power)
        for power, factor in number]
    above = integer_power(at[0], max(least, 0)) * integer_power(at[1], max(-greatest, 0))
    below = integer_power(at[0], max(-least, 0)) * integer_power(at[1], max(greatest, 0))
    return fraction_of(sum(nums) * above, by * below)


def to_power(at, power):
    """The power of a fraction above 0."""
    num, den = at if power >= 0 else (at[1], at[0])
    return (integer_power(num, abs(power)), integer_power(den, abs(power)))


def integer_power(integer, power):
    """The power, from 0 on, of an integer."""
    result = 1
    for at in reversed(range(power.bit_length())):
        result = result * result
        if (power >> at) & 1:
            result = result * integer
    return result


def telling_at(telling, at):
    """The telling with the worth of each number in its place."""
    return tuple([(tuple([worth_of(number, at) for number in numbers]), worth_of(right, at))
        for numbers, right in telling])


def e_of(table, small):
    """What e is: small to the power of the number of unknowns."""
    return to_power(small, table[0])


def not_greater(one, other):
    """Whether a fraction is at most another one."""
    return one[0] * other[1] <= other[0] * one[1]


def greatest_absolute(size, e, least):
    """The greatest absolute that a number with this least order can have."""
    return fraction_times((size, 1), to_power(e, least))


def least_absolute(size, e, greatest):
    """The least absolute that a number with this greatest order can have."""
    return (0, 1) if greatest is None else fraction_times((1, size), to_power(e, greatest))


def is_real(table, size, small, thing):
    """Whether thing is a real telling of a table."""
    rows = table[1]
    e = e_of(table, small)
    if not is_tuple_of(len(rows), thing):
        return False
    return all([is_real_row(row, size, e, told) for row, told in zip(rows, thing)])


def is_real_row(row, size, e, thing):
    """Whether thing has fractions of the right sizes for the sides, and for the right side, of a row."""
    sides, right = row
    if not is_tuple_of(2, thing) or not is_tuple_of(len(sides), thing[0]):
        return False
    for (_, least, greatest), number in zip(sides, thing[0]):
        if not is_real_number(size, e, least, greatest, number):
            return False
    if right is None:
        return is_fraction(thing[1]) and thing[1] == (0, 1)
    return is_real_number(size, e, right[0], right[1], thing[1])


def is_real_number(size, e, least, greatest, thing):
    """Whether thing is a fraction whose absolute is within what the bounds let it be."""
    if not is_fraction(thing):
        return False
    absolute = (abs(thing[0]), thing[1])
    if not not_greater(absolute, greatest_absolute(size, e, least)):
        return False
    return not_greater(least_absolute(size, e, greatest), absolute)


def real_answer(table, numbers):
    """The fractions of all unknowns with which all rows of a real telling are right."""
    rows = []
    for (sides, _), (told, right) in zip(table[1], numbers):
        cells = {unknown: number for (unknown, _, _), number in zip(sides, told)}
        rows.append({**cells, table[0]: right})
    return fractions_solved(rows)


def fractions_solved(rows):
    """The fractions that make rows right: dicts to fractions from as many unknowns, and from the right side behind."""
    answer = solved([{column: term(0, cells[column]) for column in cells} for cells in rows])
    return tuple([fraction_over(leading_of(num), leading_of(den)) for num, den in answer])


def fraction_over(one, other):
    """The quotient of two fractions, None being 0 as the first one."""
    if one is None:
        return (0, 1)
    num, den = one[0] * other[1], one[1] * other[0]
    return fraction_of(num, den) if den > 0 else fraction_of(-num, -den)


def reach_rows(table, size, small):
    """For each unknown, by its own row, a dict to the fractions whose sums are equal in the least reach.

    That of the unknown itself has one sign, those of all others the other one; behind them is that of the right side.
    """
    e = e_of(table, small)
    rows, _ = own_rows(table)
    return [reach_row(table[1][row], table[0], unknown, size, e) for unknown, row in enumerate(rows)]


def reach_row(row, many, own, size, e):
    """The dict of reach_rows of the own row of an unknown."""
    sides, right = row
    cells = {many: (0, 1) if right is None else greatest_absolute(size, e, right[0])}
    for unknown, least, greatest in sides:
        if unknown == own:
            cells[unknown] = least_absolute(size, e, greatest)
        else:
            num, den = greatest_absolute(size, e, least)
            cells[unknown] = (-num, den)
    return cells


def reach_of(table, size, small):
    """The least reach of a table."""
    return fractions_solved(reach_rows(table, size, small))


def is_reach(table, size, small, thing):
    """Whether thing is a reach of a table."""
    many = table[0]
    if not is_tuple_of(many, thing) or not all([is_fraction(item) and item[0] >= 0 for item in thing]):
        return False
    for cells in reach_rows(table, size, small):
        reached = (0, 1)
        for unknown in cells:
            if unknown < many:
                reached = fraction_total(reached, fraction_times(cells[unknown], thing[unknown]))
        if not not_greater(cells[many], reached):
            return False
    return True


def off_by(table, size, small, unknown):
    """By how much at most an unknown differs from the product along its shortest walk, as a share of this."""
    sure_by(table, unknown)
    length, walk = shortest(table, unknown)
    grown = integer_power(size, 2 * len(walk))
    best = fraction_times((grown, 1), to_power(e_of(table, small), length))
    share = fraction_total(fraction_over(reach_of(table, size, small)[unknown], best), (-1, 1))
    return fraction_times(share, (grown * grown, 1))
