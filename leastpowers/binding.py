"""Which waits make a least plan so late, and how much room waits have."""

from leastpowers.floors import least_from
from leastpowers.leastplan import without_waits
from leastpowers.numbers import not_above
from leastpowers.plans import earliest_by

LEAST_DELAY = -200
GREATEST_DELAY = 200


def binding(system, floors):
    """The indexes of the waits without any single one of which the least plan above floors would be another one."""
    plan = least_from(system, floors)
    return [index for index in range(len(system[1])) if least_from(without_waits(system, (index,)), floors) != plan]


def slack_of(system, plan):
    """By how much each wait's event is later than the wait lets it be, None if the event never happens."""
    return [slack_by(plan, wait) for wait in system[1]]


def slack_by(plan, wait):
    """By how much the event of one wait is later than the wait lets it be, None if the event never happens."""
    order = plan[wait[0]]
    return None if order is None else order - earliest_by(plan, wait)


def greatest_delay(system, floors, ceilings, index, place):
    """The greatest delay of an option with which no event is later than its ceiling, None if there is none."""
    least, greatest = LEAST_DELAY, GREATEST_DELAY
    if not is_in_time(with_delay(system, index, place, least), floors, ceilings):
        return None
    # A greater delay makes no event earlier, so there is one last delay that is in time.
    while least < greatest:
        middle = (least + greatest + 1) // 2
        if is_in_time(with_delay(system, index, place, middle), floors, ceilings):
            least = middle
        else:
            greatest = middle - 1
    return least


def with_delay(system, index, place, delay):
    """The system with another delay of the option at a place of a wait."""
    many, waits = system
    event, options = waits[index]
    changed = options[:place] + ((options[place][0], delay),) + options[place + 1:]
    return (many, waits[:index] + ((event, changed),) + waits[index + 1:])


def is_in_time(system, floors, ceilings):
    """Whether no order of the least plan above floors is above its ceiling, None being no ceiling."""
    return all([not_above(order, ceiling) for order, ceiling in zip(least_from(system, floors), ceilings)])
