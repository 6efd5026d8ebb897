"""The system of a table."""

from leastpowers.tables import low_high


def system_of(table):
    """The system of a table: its unknowns wait for each other, and the right sides, as one event more, with them."""
    many, rows = table
    return (many + 1, tuple([wait for row in range(len(rows)) for wait in waits_of_row(table, row)]))


def wait_places(table):
    """For each wait of the system of a table, its row and its event."""
    return [(row, wait[0]) for row in range(len(table[1])) for wait in waits_of_row(table, row)]


def waits_of_row(table, row):
    """The waits of one row, for all events that can't be 0 in it."""
    bounds = bounds_in_row(table, row)
    waits = []
    for event, (_, high) in bounds.items():
        if high is not None:
            waits.append((event, tuple([(other, bounds[other][0] - high) for other in bounds if other != event])))
    return waits


def bounds_in_row(table, row):
    """LOW and HIGH of all unknowns that are there in a row, ascending, and of its right side, if it is."""
    bounds = {event: low_high(table, row, event) for event in range(table[0] + 1)}
    return {event: bounds[event] for event in bounds if bounds[event] is not None}
