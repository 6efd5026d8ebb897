"""Which lots of waits bar an event, and which do not."""

from leastpowers.errors import TooMany
from leastpowers.leastplan import least_plan

MOST_WAITS = 12


def system_of_lot(system, lot):
    """The system of the waits with these indexes alone."""
    many, waits = system
    return (many, tuple([waits[index] for index in lot]))


def is_barred_by(system, lot, event):
    """Whether an event is barred by a lot."""
    return least_plan(system_of_lot(system, lot))[event] is None


def least_bars(system, event):
    """The lots that bar an event, and hold no other such lot."""
    bars, _ = bars_and_frees(system, event)
    return bars


def greatest_frees(system, event):
    """The lots that do not bar an event, and lie in no other such lot."""
    _, frees = bars_and_frees(system, event)
    return frees


def bars_and_frees(system, event):
    """Both the least lots that bar an event and the greatest ones that do not."""
    many = len(system[1])
    if many > MOST_WAITS:
        raise TooMany(MOST_WAITS)
    bars, frees = [], []
    # A lot is an integer here, with a bit for each wait. As each one comes behind all that lie in it, one that bars
    # is a least one if it holds none of the bars that were found.
    for lot in range(1 << many):
        if any([(lot & bar) == bar for bar in bars]) or any([(lot & free) == lot for free in frees]):
            continue
        if is_barred_by(system, members(many, lot), event):
            bars.append(lot)
        else:
            frees.append(grown(system, lot, event))
    return (sorted([members(many, bar) for bar in bars]), sorted([members(many, free) for free in frees]))


def members(many, lot):
    """The lot of those of so many waits whose bits are set in an integer."""
    return tuple([index for index in range(many) if (lot >> index) & 1])


def grown(system, lot, event):
    """A greatest lot that does not bar an event, and in which one lies that does not; both as integers."""
    many = len(system[1])
    for index in range(many):
        wider = lot | (1 << index)
        if not is_barred_by(system, members(many, wider), event):
            lot = wider
    return lot


def first_bar(system, event):
    """A least lot that bars an event, with waits of low indexes where there is a choice; None if none does."""
    many = len(system[1])
    lot = tuple(range(many))
    if not is_barred_by(system, lot, event):
        return None
    for index in reversed(range(many)):
        rest = tuple([other for other in lot if other != index])
        if is_barred_by(system, rest, event):
            lot = rest
    return lot
