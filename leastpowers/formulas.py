"""What is the same of an unknown in the answers of all tellings."""

from leastpowers.determinants import rows_of_exact
from leastpowers.errors import NotTold
from leastpowers.numbers import fraction_of, term
from leastpowers.walks import ends_of, exact_options, second_length, shortest, shortest_nexts, shortest_walk, steps_of


def told_orders(table):
    """For each unknown (order,) if its order is the same in all answers, and () otherwise."""
    rows_of_exact(table)
    return tuple([told_order(table, unknown) for unknown in range(table[0])])


def told_order(table, unknown):
    """The tuple (order,) of an unknown, None being the order without a walk; () if there are two shortest walks."""
    best = shortest(table, unknown)
    if best is None:
        return (None,)
    return () if second_length(table, unknown) == best[0] else (best[0],)


def parting_tellings(table, unknown):
    """Two tellings in whose answers the order of an unknown is not the same, None if it always is."""
    if told_order(table, unknown) != ():
        return None
    row, place, factor = cancelling(table, unknown)
    # In the first telling all walks have the same sign; in the other one the shortest ones cancel.
    return (plain_telling(table, {}), plain_telling(table, {(row, place): factor}))


def cancelling(table, unknown):
    """A place (row, index of a side) and the factor there with which all shortest walks of an unknown cancel."""
    rows = rows_of_exact(table)
    options = exact_options(table)
    ends = ends_of(options)
    steps = steps_of(table[0], shortest_walk(options, ends, unknown))
    forks = [step for step in steps if shortest_many(options, ends, step[1]) < shortest_many(options, ends, step[0])]
    # All shortest walks come to the first head from which some go another way, and none goes by this side but there.
    head, after = forks[0]
    ways = shortest_many(options, ends, after)
    others = shortest_many(options, ends, head) - ways
    sign = -1 if after == table[0] else 1
    return (rows[head], place_of(table, rows[head], after), fraction_of(sign * others, ways))


def shortest_many(options, ends, event):
    """How many shortest walks go from an event, 1 from the right side."""
    if event == len(options):
        return 1
    return sum([shortest_many(options, ends, other) for other in shortest_nexts(options, ends, event)])


def place_of(table, row, event):
    """The index of the side of an unknown in a row, the number of sides for the right side."""
    events = [unknown for unknown, _, _ in table[1][row][0]] + [table[0]]
    return events.index(event)


def plain_telling(table, factors):
    """The telling with factors of a dict from places, 1 for own sides and right sides and -1 for all other sides.

    With none in the dict each walk has the factor 1: it has a minus for each side.
    """
    rows = rows_of_exact(table)
    return tuple([plain_row(row, index, rows.index(index), factors) for index, row in enumerate(table[1])])


def plain_row(row, index, own, factors):
    """The telling of the row at an index, which is the own row of an unknown."""
    sides, right = row
    numbers = []
    for place, (unknown, order, _) in enumerate(sides):
        usual = (1, 1) if unknown == own else (-1, 1)
        numbers.append(term(order, factors.get((index, place), usual)))
    if right is None:
        return (tuple(numbers), ())
    return (tuple(numbers), term(right[0], factors.get((index, len(sides)), (1, 1))))


def formula_of(table, unknown):
    """The tuple (sign, above, below) of the shortest walk of an unknown, None if it is 0 in all answers."""
    rows = rows_of_exact(table)
    order = need_told(table, unknown)
    if order is None:
        return None
    _, walk = shortest(table, unknown)
    above = [(rows[head], place_of(table, rows[head], after)) for head, after in steps_of(table[0], walk)]
    below = [(rows[head], place_of(table, rows[head], head)) for head in walk]
    return (1 if len(walk) % 2 == 1 else -1, tuple(sorted(above)), tuple(sorted(below)))


def need_told(table, unknown):
    """The order of an unknown in all answers; raises NotTold if it is not the same in all."""
    told = told_order(table, unknown)
    if told == ():
        raise NotTold(unknown)
    return told[0]


def sure_by(table, unknown):
    """By how much the second walk of an unknown is longer than the shortest one, None if there is no second one."""
    length = need_told(table, unknown)
    if length is None:
        raise NotTold(unknown)
    second = second_length(table, unknown)
    return None if second is None else second - length
