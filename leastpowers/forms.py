"""Tells of any value whether it has one of the forms of the package."""

from math import gcd


def is_integer(thing):
    """Whether thing is an integer; a truth is none."""
    return isinstance(thing, int) and not isinstance(thing, bool)


def is_order(thing):
    """Whether thing is an integer or None."""
    return thing is None or is_integer(thing)


def is_tuple_of(size, thing):
    """Whether thing is a tuple of so many items."""
    return isinstance(thing, tuple) and len(thing) == size


def is_index(many, thing):
    """Whether thing is one of the integers from 0 to many - 1."""
    return is_integer(thing) and 0 <= thing < many


def are_ascending(integers):
    """Whether each integer of a list is less than the one behind it."""
    return all([one < other for one, other in zip(integers, integers[1:])])


def is_fraction(thing):
    """Whether thing is a tuple (num, den) in lowest terms, den from 1 on."""
    if not is_tuple_of(2, thing):
        return False
    num, den = thing
    return is_integer(num) and is_integer(den) and den > 0 and gcd(num, den) == 1


def is_term(thing):
    """Whether thing is a tuple (power, factor), the factor not being 0."""
    if not is_tuple_of(2, thing):
        return False
    power, factor = thing
    return is_integer(power) and is_fraction(factor) and factor[0] != 0


def is_number(thing):
    """Whether thing is a tuple of terms with ascending powers."""
    if not isinstance(thing, tuple) or not all([is_term(item) for item in thing]):
        return False
    return are_ascending([power for power, factor in thing])


def is_quotient(thing):
    """Whether thing is a tuple (num, den) of numbers, den not being 0."""
    return is_tuple_of(2, thing) and is_number(thing[0]) and is_number(thing[1]) and thing[1] != ()


def are_bounds(thing):
    """Whether thing is a tuple (least, greatest) of bounds as those of a side."""
    if not is_tuple_of(2, thing):
        return False
    least, greatest = thing
    return is_integer(least) and (greatest is None or is_integer(greatest) and least <= greatest)


def is_option(many, thing):
    """Whether thing is a tuple (other, delay), other being one of so many events."""
    return is_tuple_of(2, thing) and is_index(many, thing[0]) and is_integer(thing[1])


def is_wait(many, thing):
    """Whether thing is a wait of one of so many events."""
    if not is_tuple_of(2, thing):
        return False
    event, options = thing
    if not is_index(many, event) or not isinstance(options, tuple):
        return False
    if not all([is_option(many, option) for option in options]):
        return False
    return are_ascending([other for other, delay in options])


def is_number_and_tuple(thing):
    """Whether thing is a tuple (many, items) of an integer from 0 on and a tuple."""
    return is_tuple_of(2, thing) and is_integer(thing[0]) and thing[0] >= 0 and isinstance(thing[1], tuple)


def is_system(thing):
    """Whether thing is a tuple (many, waits) of a number of events and of their waits."""
    return is_number_and_tuple(thing) and all([is_wait(thing[0], wait) for wait in thing[1]])


def are_so_many_orders(many, thing):
    """Whether thing is a tuple of so many orders."""
    return is_tuple_of(many, thing) and all([is_order(order) for order in thing])


def is_plan(system, thing):
    """Whether thing is a plan of a system, kept or not."""
    return are_so_many_orders(system[0], thing)


def is_side(many, thing):
    """Whether thing is a side of one of so many unknowns."""
    return is_tuple_of(3, thing) and is_index(many, thing[0]) and are_bounds(thing[1:])


def is_row(many, thing):
    """Whether thing is a row of a table of so many unknowns."""
    if not is_tuple_of(2, thing):
        return False
    sides, right = thing
    if not isinstance(sides, tuple) or not all([is_side(many, side) for side in sides]):
        return False
    return right is None or are_bounds(right)


def is_table(thing):
    """Whether thing is a tuple (many, rows) of a number of unknowns and of rows."""
    return is_number_and_tuple(thing) and all([is_row(thing[0], row) for row in thing[1]])


def is_number_within(least, greatest, thing):
    """Whether thing is a number within bounds: 0 is if greatest is None."""
    if not is_number(thing):
        return False
    if thing == ():
        return greatest is None
    order = thing[0][0]
    return least <= order and (greatest is None or order <= greatest)


def is_row_telling(row, thing):
    """Whether thing tells the numbers of the sides, and of the right side, of a row."""
    sides, right = row
    if not is_tuple_of(2, thing) or not is_tuple_of(len(sides), thing[0]):
        return False
    for (_, least, greatest), number in zip(sides, thing[0]):
        if not is_number_within(least, greatest, number):
            return False
    if right is None:
        return is_tuple_of(0, thing[1])
    return is_number_within(right[0], right[1], thing[1])


def is_telling(table, thing):
    """Whether thing is a telling of a table."""
    rows = table[1]
    if not is_tuple_of(len(rows), thing):
        return False
    return all([is_row_telling(row, told) for row, told in zip(rows, thing)])


def are_orders(table, thing):
    """Whether thing is a tuple of an order for each unknown of a table, standing or not."""
    return are_so_many_orders(table[0], thing)
