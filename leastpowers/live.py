"""A system that changes, and what it owes to keep."""

from leastpowers.errors import Broken, NoDuty, NoIndex, Nothing, TooMany, Wrong
from leastpowers.following import follows
from leastpowers.forms import is_index, is_integer, is_system, is_tuple_of, is_wait
from leastpowers.leastplan import least_plan, together, with_waits, without_waits

MOST_WAITS = 40


def is_duty(system, thing):
    """Whether thing is a duty of a system."""
    many = system[0]
    if is_tuple_of(2, thing):
        return thing[0] == "can" and is_index(many, thing[1])
    if not is_tuple_of(4, thing) or thing[0] != "ahead":
        return False
    _, one, other, gap = thing
    return is_index(many, one) and is_index(many, other) and one != other and is_integer(gap)


def need_kept(system, duties):
    """Raises Broken with the first one of duties of a system that is not kept."""
    for duty in duties:
        if not is_kept(system, duty):
            raise Broken(duty)


def is_kept(system, duty):
    """Whether a duty of a system is kept."""
    if duty[0] == "can":
        return together(system, (duty[1],))
    _, one, other, gap = duty
    return follows(system, (other, ((one, gap),)))


class Live:
    """A system and its duties, with all that can be taken back and done again."""

    def __init__(self, system):
        if not is_system(system):
            raise Wrong(0)
        self._state = (system, ())
        self._done = []
        self._undone = []

    def __eq__(self, other):
        return isinstance(other, Live) and self._state == other._state

    def put_wait(self, wait):
        """Puts a wait behind all others."""
        system, duties = self._state
        if not is_wait(system[0], wait):
            raise Wrong(0)
        if len(system[1]) >= MOST_WAITS:
            raise TooMany(MOST_WAITS)
        changed = with_waits(system, (wait,))
        need_kept(changed, duties)
        self._go_on(changed, duties)

    def drop_wait(self, index):
        """Takes the wait with an index out."""
        system, duties = self._state
        if not is_index(len(system[1]), index):
            raise NoIndex(index)
        changed = without_waits(system, (index,))
        need_kept(changed, duties)
        self._go_on(changed, duties)
        return system[1][index]

    def owe(self, duty):
        """Puts a duty behind all others."""
        system, duties = self._state
        if not is_duty(system, duty):
            raise NoDuty(duty)
        need_kept(system, (duty,))
        self._go_on(system, duties + (duty,))

    def free(self, index):
        """Takes the duty with an index out."""
        system, duties = self._state
        if not is_index(len(duties), index):
            raise NoIndex(index)
        self._go_on(system, duties[:index] + duties[index + 1:])
        return duties[index]

    def _go_on(self, system, duties):
        """Comes to another state, in which all duties are kept."""
        self._done.append(self._state)
        self._undone = []
        self._state = (system, duties)

    def system(self):
        """The system."""
        return self._state[0]

    def duties(self):
        """The duties, in their order."""
        return list(self._state[1])

    def plan(self):
        """The least plan."""
        return least_plan(self._state[0])

    def back(self):
        """Takes the last thing back that was done."""
        if not self._done:
            raise Nothing()
        self._undone.append(self._state)
        self._state = self._done.pop()

    def again(self):
        """Does the thing once more that was taken back last."""
        if not self._undone:
            raise Nothing()
        self._done.append(self._state)
        self._state = self._undone.pop()

    def twin(self):
        """An independent copy, with what can be taken back and done again."""
        other = Live(self._state[0])
        other._state = self._state
        other._done = list(self._done)
        other._undone = list(self._undone)
        return other
