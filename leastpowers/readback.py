"""Which orders the sides of a row can have if orders of the unknowns were measured."""

from leastpowers.errors import NoFit
from leastpowers.forms import are_so_many_orders
from leastpowers.gaps import gap_span
from leastpowers.leastplan import least_plan
from leastpowers.lots import members
from leastpowers.plans import keeps, shifted


def is_fit(table, runs, row, thing):
    """Whether thing is a fit of a row to runs."""
    if not are_so_many_orders(len(table[1][row][0]), thing):
        return False
    return keeps(side_system(table, runs, row), thing + (0,))


def fit_of(table, runs, row):
    """A fit of a row to runs, None if there is none."""
    plan = least_plan(side_system(table, runs, row))
    return None if plan[-1] is None else shifted(plan[:-1], -plan[-1])


def fit_span(table, runs, row, place):
    """The least and the greatest integer of a side in fits, None if it can be none."""
    system = side_system(table, runs, row)
    plan = least_plan(system)
    if plan[-1] is None:
        raise NoFit(row)
    if plan[place] is None:
        return None
    return gap_span(system, len(plan) - 1, place)


def side_system(table, runs, row):
    """The system whose events are the sides of a row, and one more behind them, which is 0 in all fits."""
    sides, right = table[1][row]
    waits = bound_waits(sides)
    for run in runs:
        waits = waits + run_waits(sides, right, run)
    return (len(sides) + 1, tuple(waits))


def bound_waits(sides):
    """The waits that keep the sides of a row within their bounds."""
    zero = len(sides)
    waits = []
    for place, (_, least, greatest) in enumerate(sides):
        waits.append((place, ((zero, least),)))
        if greatest is not None:
            waits.append((zero, ((place, -greatest),)))
    return waits


def run_waits(sides, right, run):
    """The waits that leave no side of a row, nor its right side, alone with the least order in a run."""
    zero = len(sides)
    there = [(place, run[side[0]]) for place, side in enumerate(sides) if run[side[0]] is not None]
    waits = []
    for place, order in there:
        options = [(other, by - order) for other, by in there if other != place]
        if right is not None:
            options.append((zero, right[0] - order))
        waits.append((place, tuple(options)))
    if right is not None and right[1] is not None:
        waits.append((zero, tuple([(other, by - right[1]) for other, by in there])))
    return waits


def wrong_runs(table, runs, row):
    """The least lots of runs to which a row has no fit."""
    many = len(runs)
    wrong = []
    # A lot is an integer here, with a bit for each run, and comes behind all that lie in it.
    for lot in range(1 << many):
        if not any([(lot & other) == other for other in wrong]):
            if fit_of(table, tuple([runs[index] for index in members(many, lot)]), row) is None:
                wrong.append(lot)
    return sorted([members(many, lot) for lot in wrong])
