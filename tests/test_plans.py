import unittest

import oracle
from leastpowers import plans
from samples import BIG, call, drawing, drawn_order, drawn_system

SYSTEM = (3, ((0, ((1, 2),)), (1, ((0, -1), (2, 0)))))


class PlansTest(unittest.TestCase):
    def test_keeping_a_wait(self):
        for plan, wait, expected in [
                ((2, 0), (0, ((1, 2),)), True), ((1, 0), (0, ((1, 2),)), False), ((3, 0), (0, ((1, 2),)), True),
                ((None, 0), (0, ((1, 2),)), True), ((None, None), (0, ((1, 2),)), True),
                ((5, None), (0, ((1, 2),)), False),
                ((None, 0), (0, ()), True), ((0, 0), (0, ()), False), ((BIG, 0), (0, ()), False),
                ((5, 5), (0, ((0, 0),)), True), ((5, 5), (0, ((0, -1),)), True), ((5, 5), (0, ((0, 1),)), False),
                ((0, 9), (0, ((0, 1), (1, -9))), True), ((0, 9), (0, ((0, 1), (1, -8))), False),
                ((-3, -3), (0, ((1, 0),)), True), ((0, None), (0, ((0, 0), (1, 0))), True)]:
            self.assertIs(expected, call(self, plans.keeps_wait, plan, wait), (plan, wait))

    def test_keeping_a_system(self):
        for plan, expected in [
                ((2, 0, 0), []), ((1, 0, 0), [0]), ((0, -2, -2), []), ((None, -2, -3), []), ((0, -2, -3), []),
                ((0, -2, None), [1]), ((1, 0, None), [0]), ((1, None, None), [0]), ((None, 0, None), [1]),
                ((1, 0, 1), [0]), ((0, -1, 0), [0]), ((0, -1, None), [0]), ((5, 4, None), [0]),
                ((None, None, None), [])]:
            self.assertEqual(expected, call(self, plans.unkept, SYSTEM, plan), plan)
            self.assertIs(expected == [], call(self, plans.keeps, SYSTEM, plan), plan)

    def test_several_waits_that_are_not_kept(self):
        system = (2, ((0, ()), (1, ((0, 1),)), (0, ((0, 0),)), (1, ((1, 1),)), (0, ())))
        self.assertEqual([0, 1, 3, 4], call(self, plans.unkept, system, (0, 0)))
        self.assertEqual([2], call(self, plans.unkept, (2, system[1][1:4]), (0, 1)))

    def test_without_events_or_waits(self):
        self.assertEqual([True, []], [call(self, plans.keeps, (0, ()), ()), call(self, plans.unkept, (0, ()), ())])
        self.assertIs(True, call(self, plans.keeps, (2, ()), (0, None)))

    def test_shifted(self):
        self.assertEqual((None, 3, 2), call(self, plans.shifted, (None, 1, 0), 2))
        self.assertEqual((None, -1, BIG - 2), call(self, plans.shifted, (None, 1, BIG), -2))
        self.assertEqual((), call(self, plans.shifted, (), 5))

    def test_earliest_by(self):
        for plan, wait, expected in [
                ((2, 0, 0), (1, ((0, -1), (2, 5))), 1), ((2, 0, 0), (1, ()), None),
                ((None, 0, 4), (1, ((0, -9), (2, 5))), 9),
                ((None, 0, None), (1, ((0, -9), (2, 5))), None), ((0, 0, 0), (0, ((0, 0), (1, -1), (2, 1))), -1),
                ((7, 0, 0), (0, ((0, 0),)), 7), ((0, 0, 0), (0, ((1, 3),)), 3)]:
            self.assertEqual(expected, call(self, plans.earliest_by, plan, wait), (plan, wait))

    def test_drawn_plans(self):
        draw = drawing(20)
        kept = 0
        for _ in range(500):
            system = drawn_system(draw, draw.randint(0, 4))
            plan = tuple([drawn_order(draw) for _ in range(system[0])])
            expected = oracle.keeps(system, plan)
            kept += expected
            self.assertIs(expected, call(self, plans.keeps, system, plan))
            alone = [index for index, wait in enumerate(system[1]) if not oracle.keeps((system[0], (wait,)), plan)]
            self.assertEqual(alone, call(self, plans.unkept, system, plan))
            for index, wait in enumerate(system[1]):
                self.assertIs(index not in alone, call(self, plans.keeps_wait, plan, wait))
        self.assertTrue(50 < kept < 450)
