"""Of which orders no own tone can be."""

from leastpowers.determinants import need_square
from leastpowers.ownrows import own_rows
from leastpowers.silence import loud_orders


def table_at(table, s):
    """The table with all bounds of sides times the den of s, and in each row i a side of the unknown i of its num."""
    need_square(table)
    many, rows = table
    return (many, tuple([row_at(sides, index, s) for index, (sides, _) in enumerate(rows)]))


def row_at(sides, index, s):
    """The row at an index with bounds times the den of s, and with the side of its num."""
    num, den = s
    scaled = tuple([(unknown, least * den, order_times(greatest, den)) for unknown, least, greatest in sides])
    return (scaled + ((index, num, num),), None)


def order_times(order, by):
    """An order times an integer."""
    return None if order is None else order * by


def no_tone(table, s):
    """Own rows of the table at s, which show that no telling has an own tone of the order s; None if one can have."""
    return own_rows(table_at(table, s))


def tone_orders(table, s):
    """Orders, not all None, that stand in the table at s; None if no telling has an own tone of the order s."""
    return loud_orders(table_at(table, s))
