"""The bounds of tables, and tables that come from others."""

from leastpowers.numbers import later, least_order


def low_high(table, row, unknown):
    """The tuple (LOW, HIGH) of an unknown, or of the right side, in a row; None if it is not there."""
    many, rows = table
    sides, right = rows[row]
    if unknown == many:
        return right
    bounds = [(least, greatest) for other, least, greatest in sides if other == unknown]
    if not bounds:
        return None
    low = min([least for least, greatest in bounds])
    return (low, high_of(bounds))


def high_of(bounds):
    """The greatest order to which sides with these bounds can come together; None if they can come to 0."""
    high = least_order([greatest for least, greatest in bounds])
    if high is None:
        return None
    # The side with this greatest has a least that is not above it, so it is one of these.
    reaching = [least for least, greatest in bounds if least <= high]
    return high if len(reaching) == 1 else None


def without_rights(table):
    """The table with all right sides None."""
    many, rows = table
    return (many, tuple([(sides, None) for sides, right in rows]))


def with_row(table, row):
    """The table with a row more behind all others."""
    many, rows = table
    return (many, rows + (row,))


def without_row(table, index):
    """The table without the row at an index."""
    many, rows = table
    return (many, rows[:index] + rows[index + 1:])


def with_bounds(table, row, place, least, greatest):
    """The table with these bounds for the side at a place of a row, or for its right side, behind the sides."""
    many, rows = table
    sides, right = rows[row]
    if place == len(sides):
        changed = (sides, (least, greatest))
    else:
        changed = (sides[:place] + ((sides[place][0], least, greatest),) + sides[place + 1:], right)
    return (many, rows[:row] + (changed,) + rows[row + 1:])


def renumbered(table, order):
    """The table whose unknown i is the unknown order[i] of a table."""
    many, rows = table
    return (many, tuple([(renumbered_sides(sides, order), right) for sides, right in rows]))


def renumbered_sides(sides, order):
    """The sides with the place in order of each unknown instead of it."""
    return tuple([(order.index(unknown), least, greatest) for unknown, least, greatest in sides])


def ordered_rows(table, order):
    """The table whose row i is the row order[i] of a table."""
    many, rows = table
    return (many, tuple([rows[index] for index in order]))


def moved_rows(table, shifts):
    """The table with all bounds of each row greater by its integer of shifts."""
    many, rows = table
    return (many, tuple([moved_row(row, by) for row, by in zip(rows, shifts)]))


def moved_row(row, by):
    """The row with all bounds greater by an integer."""
    sides, right = row
    moved = tuple([(unknown, least + by, later(greatest, by)) for unknown, least, greatest in sides])
    return (moved, None if right is None else (right[0] + by, later(right[1], by)))
