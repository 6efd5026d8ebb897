"""Systems that the same plans keep."""

from leastpowers.following import counter_plan, follows
from leastpowers.leastplan import without_waits


def parting_plan(one, other):
    """A plan that keeps one of two systems alone, behind the place of this one; None if the same plans keep both."""
    for place, (kept, unkept) in enumerate([(one, other), (other, one)]):
        for wait in unkept[1]:
            plan = counter_plan(kept, wait)
            if plan is not None:
                return (place, plan)
    return None


def says_same(one, other):
    """Whether the same plans keep both systems."""
    return parting_plan(one, other) is None


def needless_waits(system):
    """The indexes of the waits that follow from the system without this single one."""
    return [index for index in range(len(system[1])) if is_needless(system, index)]


def is_needless(system, index):
    """Whether a wait follows from the system without it."""
    return follows(without_waits(system, (index,)), system[1][index])


def spare_system(system):
    """What is left of a system if each wait that follows from those still there is left out, the last ones first."""
    many = len(system[1])
    spare = system
    for index in reversed(range(many)):
        if is_needless(spare, index):
            spare = without_waits(spare, (index,))
    return spare


def shorter_wait(system, index):
    """The wait at an index without those options that it does not need, the last ones left out first."""
    event, options = system[1][index]
    left = options
    for option in reversed(options):
        rest = tuple([other for other in left if other != option])
        # With fewer options a wait lets no further plan through; so all that counts is that it keeps none back.
        if follows(system, (event, rest)):
            left = rest
    return (event, left)
