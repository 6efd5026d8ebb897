"""How far one bound of a side can be moved while a table stays silent."""

from leastpowers.numbers import later
from leastpowers.silence import is_silent, need_silent
from leastpowers.tables import with_bounds


def greatest_margin(table, row, place):
    """The greatest power that can be the greatest of a side in a silent table, None if each from it on can be."""
    need_silent(table)
    steps = silent_steps(table, row, place, 0, 1)
    return None if steps is None else table[1][row][0][place][2] + steps


def least_margin(table, row, place):
    """The least power that can be the least of a side in a silent table, None if each from it down can be."""
    need_silent(table)
    steps = silent_steps(table, row, place, -1, 0)
    return None if steps is None else table[1][row][0][place][1] - steps


def silent_steps(table, row, place, to_least, to_greatest):
    """By how many steps, (to_least, to_greatest) each, the bounds of a side can move; None for without end."""
    # Wider bounds make no table silent. A ring of waits to which the moved bound belongs has one delay with it; behind
    # so many steps this one makes up for all others, and further steps change nothing.
    silent, loud = 0, table[0] * width_of(table)
    if is_silent(with_moved(table, row, place, to_least * loud, to_greatest * loud)):
        return None
    while loud - silent > 1:
        middle = (silent + loud) // 2
        if is_silent(with_moved(table, row, place, to_least * middle, to_greatest * middle)):
            silent = middle
        else:
            loud = middle
    return silent


def with_moved(table, row, place, to_least, to_greatest):
    """The table with so much more as the bounds of a side."""
    _, least, greatest = table[1][row][0][place]
    return with_bounds(table, row, place, least + to_least, later(greatest, to_greatest))


def width_of(table):
    """The greatest power of all bounds of sides less the least one."""
    powers = powers_of(table)
    return max(powers) - min(powers)


def powers_of(table):
    """All powers that are bounds of sides."""
    sides = [side for sides, _ in table[1] for side in sides]
    return [power for _, least, greatest in sides for power in (least, greatest) if power is not None]
