import unittest

import oracle
from leastpowers.binding import binding, greatest_delay, slack_of
from samples import BIG, call, drawing, drawn_order, drawn_system

SYSTEM = (3, ((0, ((1, 2), (2, 5))), (1, ((0, -3),)), (2, ((2, 0),))))
CHAIN = (3, ((0, ((1, 2),)), (1, ((2, 3),))))


def drawn_floors(draw, many, size):
    return tuple([draw.randint(-size, size) for _ in range(many)])


def plans_above(system, floors, ceilings, index, place, delay):
    """Whether the least plan above floors is above a ceiling with this delay of an option."""
    many, waits = system
    event, options = waits[index]
    options = [(other, delay if at == place else old) for at, (other, old) in enumerate(options)]
    plan = oracle.least_plan((many, (*waits[:index], (event, tuple(options)), *waits[index + 1:])), floors)
    pairs = [(order, ceiling) for order, ceiling in zip(plan, ceilings) if ceiling is not None]
    return any([order is None or order > ceiling for order, ceiling in pairs])


class BindingTest(unittest.TestCase):
    def test_waits_that_bind(self):
        for system, floors, expected in [
                (SYSTEM, (0, 0, 0), [0]), (SYSTEM, (0, 4, 0), [0]), (SYSTEM, (5, 0, 0), [1]), (SYSTEM, (9, 0, 0), [1]),
                (CHAIN, (0, 0, 0), [0, 1]), (CHAIN, (9, 0, 0), [1]), (CHAIN, (9, 5, 0), []), (CHAIN, (5, 0, 0), [1]),
                ((2, ((0, ()),)), (-7, 9), [0]), ((2, ((0, ((1, 0),)), (1, ((0, 0),)))), (0, 0), []),
                ((1, ((0, ((0, 1),)),)), (3,), [0]), ((1, ((0, ((0, 0),)),)), (3,), []), ((0, ()), (), []),
                ((2, ()), (5, 600), []), ((2, ((0, ((1, BIG),)),)), (0, 0), [0])]:
            self.assertEqual(expected, call(self, binding, system, floors), (system, floors))

    def test_waits_twice_do_not_bind(self):
        twice = (3, CHAIN[1] + CHAIN[1][:1])
        self.assertEqual([1], call(self, binding, twice, (0, 0, 0)))
        self.assertEqual([], call(self, binding, (2, ((0, ()), (0, ()))), (0, 0)))
        self.assertEqual([], call(self, binding, (2, ((0, ()), (0, ((0, 1),)))), (0, 0)))
        self.assertEqual([0], call(self, binding, (2, ((0, ((1, 3),)), (0, ((1, 2),)))), (0, 0)))
        self.assertEqual([], call(self, binding, (2, ((0, ((1, 3),)), (0, ((1, 2),)))), (3, 0)))

    def test_drawn_waits_that_bind(self):
        draw = drawing(61)
        several = 0
        for _ in range(400):
            system = drawn_system(draw, draw.randint(0, 6), 10, draw.choice([1, 3, 60]), 3)
            floors = drawn_floors(draw, system[0], draw.choice([0, 5, 600]))
            plan, expected = oracle.least_plan(system, floors), []
            for index in range(len(system[1])):
                if oracle.least_plan((system[0], system[1][:index] + system[1][index + 1:]), floors) != plan:
                    expected.append(index)
            self.assertEqual(expected, call(self, binding, system, floors), (system, floors))
            several += len(expected) > 2
        self.assertGreater(several, 30)

    def test_slack(self):
        for system, plan, expected in [
                (SYSTEM, (2, 0, 0), [0, 1, 0]), (SYSTEM, (None, None, 7), [None, None, 0]),
                (SYSTEM, (5, 9, 0), [0, 7, 0]), (SYSTEM, (6, None, 0), [1, None, 0]),
                (SYSTEM, (None, None, None), [None, None, None]), (CHAIN, (9, 5, 0), [2, 2]),
                (CHAIN, (None, -1, -9), [None, 5]), ((1, ((0, ()),)), (None,), [None]), ((0, ()), (), []),
                ((1, ((0, ((0, -3),)),)), (BIG,), [3]), ((2, ((0, ((0, -1), (1, 9))),) * 2), (0, -9), [1, 1]),
                ((2, ((0, ((0, -1), (1, 9))),)), (0, None), [1])]:
            self.assertEqual(expected, call(self, slack_of, system, plan), (system, plan))

    def test_drawn_slack(self):
        draw = drawing(62)
        kept = 0
        for _ in range(3000):
            system = drawn_system(draw, draw.randint(1, 4), 4, 4, 2)
            plan = tuple([drawn_order(draw, 9) for _ in range(system[0])])
            if not oracle.keeps(system, plan):
                continue
            kept += 1
            for (event, options), slack in zip(system[1], call(self, slack_of, system, plan)):
                self.assertIs(plan[event] is None, slack is None)
                if slack is not None:
                    earlier = [plan[event] - by for by in range(slack + 2)]
                    reached = [plan[other] + delay for other, delay in options if plan[other] is not None]
                    self.assertEqual([True] * (slack + 1) + [False], [min(reached) <= at for at in earlier])
        self.assertGreater(kept, 300)

    def test_greatest_delays(self):
        for system, floors, ceilings, index, place, expected in [
                (SYSTEM, (0, 0, 0), (4, None, None), 0, 0, 3), (SYSTEM, (0, 0, 0), (5, None, None), 0, 0, 200),
                (SYSTEM, (0, 0, 0), (4, 0, None), 0, 0, 3), (SYSTEM, (0, 0, 0), (5, 2, 0), 0, 0, 200),
                (SYSTEM, (0, 0, 0), (2, None, None), 0, 1, 200), (SYSTEM, (0, 0, 0), (1, None, None), 0, 1, 1),
                (SYSTEM, (0, 0, 0), (1, None, None), 0, 0, 1), (SYSTEM, (0, 0, 0), (-1, None, None), 0, 0, None),
                (CHAIN, (0, 0, 0), (7, None, None), 0, 0, 4), (CHAIN, (0, 0, 0), (7, None, None), 1, 0, 5),
                (CHAIN, (0, 0, 0), (7, 4, None), 1, 0, 4), (CHAIN, (0, 0, 0), (5, 3, 0), 1, 0, 3),
                (CHAIN, (0, 0, 0), (5, 3, -1), 1, 0, None), (CHAIN, (0, 0, 0), (None, None, None), 1, 0, 200),
                (CHAIN, (0, 0, 0), (1, None, None), 1, 0, None), (CHAIN, (0, 0, 0), (2, None, None), 1, 0, 0)]:
            told = call(self, greatest_delay, system, floors, ceilings, index, place)
            self.assertEqual(expected, told, (system, floors, ceilings, index, place))

    def test_greatest_delays_from_least_to_greatest(self):
        wait = (2, ((0, ((1, 7),)),))
        for ceiling, expected in [(199, 199), (200, 200), (201, 200), (-200, -200), (-201, None), (-199, -199)]:
            self.assertEqual(expected, call(self, greatest_delay, wait, (-600, 0), (ceiling, None), 0, 0))
        for floor, expected in [(400, None), (399, -200), (1, 198), (0, 199), (-1, 200), (-2, 200)]:
            self.assertEqual(expected, call(self, greatest_delay, wait, (-600, floor), (199, None), 0, 0))
        for ceiling, expected in [(0, 200), (-1, None)]:
            self.assertEqual(expected, call(self, greatest_delay, wait, (0, -600), (ceiling, None), 0, 0))

    def test_greatest_delays_of_events_that_may_never_happen(self):
        ring = (2, ((0, ((1, 0),)), (1, ((0, -2),))))
        self.assertEqual(2, call(self, greatest_delay, ring, (0, 0), (600, None), 0, 0))
        self.assertEqual(200, call(self, greatest_delay, ring, (0, 0), (None, None), 0, 0))
        alone = (1, ((0, ((0, 0),)),))
        self.assertEqual(0, call(self, greatest_delay, alone, (0,), (0,), 0, 0))
        self.assertEqual(200, call(self, greatest_delay, alone, (0,), (None,), 0, 0))
        self.assertIsNone(call(self, greatest_delay, alone, (1,), (0,), 0, 0))
        barred = (2, ((0, ()), (1, ((0, 5),))))
        self.assertIsNone(call(self, greatest_delay, barred, (0, 0), (None, 600), 1, 0))
        self.assertEqual(200, call(self, greatest_delay, barred, (0, 0), (None, None), 1, 0))

    def test_drawn_greatest_delays(self):
        draw = drawing(63)
        kinds = {}
        for _ in range(400):
            system = drawn_system(draw, draw.randint(1, 5), 8, draw.choice([2, 9]), 3)
            floors = drawn_floors(draw, system[0], draw.choice([0, 9, 150]))
            ceilings = [draw.choice([None, floor + draw.randint(-1, 40), 250]) for floor in floors]
            for index, (_, options) in enumerate(system[1]):
                for place in range(len(options)):
                    least = call(self, greatest_delay, system, floors, tuple(ceilings), index, place)
                    kind = least if least in (None, 200) else 0
                    kinds[kind] = kinds.get(kind, 0) + 1
                    late = [plans_above(system, floors, ceilings, index, place, delay)
                        for delay in [-200 if least is None else least, 200 if least in (None, 200) else least + 1]]
                    self.assertEqual({None: [True, True], 200: [False, False]}.get(least, [False, True]), late)
        self.assertTrue(len(kinds) == 3 and min(kinds.values()) > 50, kinds)
