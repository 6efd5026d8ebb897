"""Between which orders, on both sides of one, no own tone is."""

from math import gcd, lcm

from leastpowers.counted import tones_above
from leastpowers.errors import CanBe
from leastpowers.margins import powers_of


def gap_of(table, s):
    """The greatest fraction below s and the least one above it that own tones can have as their order."""
    above = tones_above(table, s)
    return (nearest_tone(table, s, above, -1), nearest_tone(table, s, above, 1))


def nearest_tone(table, s, above, sign):
    """The nearest order to s, on the side of a sign, that some own tone can have, None if none can."""
    # With the sign -1 all fractions are turned round, so that what is sought is above s in both cases.
    start = sign * s[0] // s[1]
    end = max(start, greatest_tone(table)) + 1
    if not is_beyond_tone(table, (sign * end, 1), above):
        return None
    while end - start > 1:
        middle = (start + end) // 2
        if is_beyond_tone(table, (sign * middle, 1), above):
            end = middle
        else:
            start = middle
    tried = [(sign * num, den) for num, den in fractions_up_to(start, end, table[0]) if num * s[1] > sign * s[0] * den]
    return [t for t in tried if is_beyond_tone(table, t, above)][0]


def greatest_tone(table):
    """A size that is not below that of any fraction that is the least or the greatest order of tones."""
    return (2 * table[0] - 1) * max([abs(power) for power in powers_of(table)], default=0)


def is_beyond_tone(table, t, above):
    """Whether an own tone can be of the order t, or be between t and an order above which there are so many tones."""
    # As many own tones are above t in each telling; so if their number is another one, some are between in each.
    try:
        return tones_above(table, t) != above
    except CanBe:
        return True


def fractions_up_to(start, end, most_den):
    """The fractions above an integer, up to another one, whose den is at most most_den, ascending."""
    common = 1
    for den in range(1, most_den + 1):
        common = lcm(common, den)
    found = []
    for den in range(1, most_den + 1):
        nums = [num for num in range(start * den + 1, end * den + 1) if gcd(num, den) == 1]
        found.extend([(num * (common // den), num, den) for num in nums])
    return [(num, den) for _, num, den in sorted(found)]
