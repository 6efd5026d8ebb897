import unittest

import oracle
from leastpowers import forms
from leastpowers.leastplan import barred_events, least_plan, together, with_waits, without_waits
from leastpowers.numbers import least_items, not_above
from leastpowers.plans import keeps, shifted
from samples import BIG, call, drawing, drawn_order, drawn_system, drawn_wait


class LeastPlanTest(unittest.TestCase):
    def test_least_plans(self):
        for system, expected in [
                ((0, ()), ()), ((3, ()), (0, 0, 0)), ((2, ((0, ()),)), (None, 0)),
                ((2, ((0, ((0, 0), (1, 3))), (1, ()))), (0, None)),
                ((3, ((0, ((1, 2),)), (1, ((0, -1), (2, 0))))), (2, 0, 0)), ((2, ((0, ((1, -5),)),)), (0, 0)),
                ((3, ((0, ((1, 2),)), (1, ((2, 3),)))), (5, 3, 0)), ((2, ((0, ((1, 4),)), (0, ((1, 2),)))), (4, 0)),
                ((3, ((0, ((1, 4), (2, 2))), (0, ((1, 1),)))), (2, 0, 0)),
                ((3, ((0, ((1, 1),)), (2, ((0, 1),)), (1, ()))), (None, None, None))]:
            self.assertEqual(expected, call(self, least_plan, system), system)
            barred = tuple([event for event, order in enumerate(expected) if order is None])
            self.assertEqual(barred, call(self, barred_events, system), system)

    def test_an_event_that_waits_for_itself(self):
        for delay, expected in [(1, None), (0, 0), (-1, 0), (60, None), (-60, 0)]:
            self.assertEqual((expected,), call(self, least_plan, (1, ((0, ((0, delay),)),))))
        self.assertEqual((7, 0), call(self, least_plan, (2, ((0, ((0, 1), (1, 7))),))))

    def test_rings_above_at_and_below_0(self):
        for last, expected in [(-3, (None, None, None)), (-4, (2, 4, 0)), (-5, (2, 4, 0)), (60, (None, None, None))]:
            system = (3, ((0, ((2, 2),)), (1, ((0, 2),)), (2, ((1, last),))))
            self.assertEqual(expected, call(self, least_plan, system), last)

    def test_a_ring_above_0_with_a_late_way_out(self):
        system = (3, ((0, ((1, 60), (2, 60))), (1, ((0, -59),)), (1, ((0, -60), (2, -60)))))
        self.assertEqual((60, 1, 0), call(self, least_plan, system))
        slow = (3, ((0, ((1, 60), (2, 60))), (1, ((0, -59), (2, 60)))))
        self.assertEqual(oracle.least_plan(slow), call(self, least_plan, slow))

    def test_greatest_delays_of_0_and_below(self):
        self.assertEqual((0, 0, None), call(self, least_plan, (3, ((0, ((1, 0),)), (1, ((0, -1), (2, 0))), (2, ())))))
        self.assertEqual((0, 0, None), call(self, least_plan, (3, ((0, ((1, -2),)), (1, ((0, -1),)), (2, ())))))
        self.assertEqual((None, None), call(self, least_plan, (2, ((0, ((1, -2),)), (1, ())))))

    def test_delays_of_many_digits(self):
        system = (3, ((0, ((1, BIG), (2, BIG + 5))), (1, ((0, 1 - BIG),)), (1, ((0, -BIG), (2, 3)))))
        self.assertEqual((BIG + 5, 6, 0), call(self, least_plan, system))

    def test_a_hundred_events(self):
        system = (100, tuple([(event, ((event - 1, 7),)) for event in range(1, 100)]))
        self.assertEqual(tuple(range(0, 700, 7)), call(self, least_plan, system))
        system = (100, tuple([(event, ((99 - event, 1), (event + 1, 7))) for event in range(50)]))
        self.assertEqual(oracle.least_plan(system), call(self, least_plan, system))

    def test_drawn_systems_have_the_plan_that_comes_step_by_step(self):
        draw = drawing(21)
        finite, barred = 0, 0
        for _ in range(1500):
            most = draw.choice([3, 8, 20, 40])
            system = drawn_system(draw, draw.randint(0, 10), most, draw.choice([0, 1, 3, 10, 60]),
                draw.choice([1, 2, 3, 6]))
            plan = call(self, least_plan, system)
            self.assertEqual(oracle.least_plan(system), plan, system)
            self.assertTrue(forms.is_plan(system, plan))
            finite += len([order for order in plan if order])
            barred += plan.count(None)
        self.assertTrue(finite > 500 and barred > 500)

    def test_full_systems(self):
        draw = drawing(22)
        for most in [1, 2, 3, 4, 6, 10]:
            for size in [2, 60]:
                for _ in range(20):
                    waits = tuple([drawn_wait(draw, 10, size, most) for _ in range(40)])
                    waits = tuple([wait for wait in waits if wait[1]])
                    self.assertEqual(oracle.least_plan((10, waits)), call(self, least_plan, (10, waits)), waits)

    def test_the_guarantee_of_one_of_two(self):
        draw = drawing(23)
        for _ in range(60):
            system = drawn_system(draw, draw.randint(1, 3), 5, 2, 2)
            plan = call(self, least_plan, system)
            self.assertTrue(keeps(system, plan))
            delays = [delay for wait in system[1] for _, delay in wait[1]]
            top = max([0, system[0] * max(delays, default=0)])
            self.assertTrue(all([order is None or 0 <= order <= top for order in plan]))
            found = oracle.plans(system, -2, top + 1)
            for other in found:
                if all([order is None or order >= 0 for order in other]):
                    self.assertTrue(all([not_above(one, two) for one, two in zip(plan, other)]))
            barred = [event for event in range(system[0]) if all([other[event] is None for other in found])]
            self.assertEqual(tuple(barred), call(self, barred_events, system))

    def test_the_guarantee_of_closed_plans(self):
        draw = drawing(24)
        for _ in range(100):
            system = drawn_system(draw, 3, 4, 2)
            found = oracle.plans(system, -2, 2)
            for _ in range(30):
                one, other = draw.choice(found), draw.choice(found)
                self.assertTrue(keeps(system, least_items(one, other)))
                self.assertTrue(keeps(system, shifted(one, draw.randint(-9, 9))))

    def test_together(self):
        system = (3, ((0, ()), (1, ((2, 1),))))
        for events, expected in [((), True), ((1,), True), ((1, 2), True), ((0,), False), ((0, 1), False),
            ((0, 1, 2), False)]:
            self.assertIs(expected, call(self, together, system, events))
        self.assertIs(True, call(self, together, (0, ()), ()))
        self.assertIs(False, call(self, together, (2, ((0, ((1, 1),)), (1, ((0, 0),)))), (1,)))
        self.assertIs(True, call(self, together, (2, ((0, ((1, 1),)), (1, ((0, 0),)))), ()))

    def test_with_and_without_waits(self):
        system = (3, ((0, ()), (1, ((2, 1),)), (0, ())))
        more = ((2, ((0, 1),)), (0, ()))
        self.assertEqual((3, system[1] + more), call(self, with_waits, system, more))
        self.assertEqual(system, call(self, with_waits, system, ()))
        self.assertEqual((3, (system[1][1],)), call(self, without_waits, system, (0, 2)))
        self.assertEqual((3, system[1][:2]), call(self, without_waits, system, (2,)))
        self.assertEqual(system, call(self, without_waits, system, ()))
        self.assertEqual((3, ()), call(self, without_waits, system, (0, 1, 2)))
        self.assertEqual(system, without_waits(with_waits(system, more), (3, 4)))

    def test_plans_that_are_drawn_keep_what_follows(self):
        draw = drawing(25)
        for _ in range(300):
            system = drawn_system(draw, 4, 4, 3)
            plan = tuple([drawn_order(draw, 9) for _ in range(4)])
            if keeps(system, plan):
                happening = tuple([event for event in range(4) if plan[event] is not None])
                self.assertTrue(call(self, together, system, happening))
