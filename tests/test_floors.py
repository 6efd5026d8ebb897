import unittest

import oracle
from leastpowers.floors import cause_of, is_cause, least_from
from leastpowers.leastplan import barred_events, least_plan
from leastpowers.numbers import not_above
from samples import ANY, BIG, call, drawing, drawn_system, exchanged

SYSTEM = (3, ((0, ((1, 2), (2, 5))), (1, ((0, -3),)), (2, ((2, 0),))))
CHAIN = (4, ((0, ((1, 2),)), (1, ((2, 3),)), (0, ((1, 1), (2, 5))), (2, ((1, -3), (3, 0))), (3, ((3, 1),))))


def drawn_floors(draw, many, size):
    return tuple([draw.randint(-size, size) for _ in range(many)])


class FloorsTest(unittest.TestCase):
    def test_least_plans_from_floors(self):
        for system, floors, expected in [
                (SYSTEM, (0, 0, 0), (2, 0, 0)), (SYSTEM, (0, 4, 0), (5, 4, 0)), (SYSTEM, (9, 0, 0), (9, 6, 0)),
                (SYSTEM, (-5, -5, -5), (-3, -5, -5)), (SYSTEM, (-600, -5, 600), (-3, -5, 600)), ((0, ()), (), ()),
                ((2, ()), (-7, 9), (-7, 9)), ((2, ((0, ()),)), (-7, 9), (None, 9)),
                (SYSTEM, (BIG, 0, 0), (BIG, BIG - 3, 0)),
                ((2, ((0, ((0, 1), (1, 1))),)), (-9, 9), (10, 9)), (CHAIN, (0, 0, 0, 0), (5, 3, 0, None))]:
            self.assertEqual(expected, call(self, least_from, system, floors), (system, floors))

    def test_floors_of_0_give_the_least_plan(self):
        draw = drawing(29)
        for _ in range(200):
            system = drawn_system(draw, draw.randint(0, 6), 10)
            self.assertEqual(least_plan(system), call(self, least_from, system, (0,) * system[0]))

    def test_drawn_floors(self):
        draw = drawing(30)
        for _ in range(1000):
            size, most = draw.choice([0, 1, 3, 10, 60]), draw.choice([1, 2, 3, 6])
            system = drawn_system(draw, draw.randint(0, 10), draw.choice([3, 8, 20, 40]), size, most)
            floors = drawn_floors(draw, system[0], draw.choice([2, 20, 600]))
            plan = call(self, least_from, system, floors)
            self.assertEqual(oracle.least_plan(system, floors), plan, (system, floors))
            barred = tuple([event for event, order in enumerate(plan) if order is None])
            self.assertEqual(barred_events(system), barred)

    def test_no_plan_above_the_floors_is_less(self):
        draw = drawing(31)
        for _ in range(60):
            system = drawn_system(draw, draw.randint(1, 3), 5, 2, 2)
            floors = drawn_floors(draw, system[0], 2)
            plan = call(self, least_from, system, floors)
            found = [other for other in oracle.plans(system, -2, 7) if all(map(not_above, floors, other))]
            self.assertTrue(oracle.keeps(system, plan))
            self.assertTrue(all(map(not_above, floors, plan)))
            self.assertTrue(all([all(map(not_above, plan, other)) for other in found]))

    def test_causes(self):
        for system, floors, event, expected in [
                (SYSTEM, (0, 4, 0), 0, [(0, 0, 2)]), (SYSTEM, (0, 0, 0), 0, [(0, 0, 1)]), (SYSTEM, (0, 0, 0), 1, []),
                (SYSTEM, (9, 0, 0), 1, [(1, 1, 0)]), (CHAIN, (0, 0, 0, 0), 3, None), (CHAIN, (0, 0, 0, -9), 3, None),
                (CHAIN, (0, 0, 0, 0), 1, [(1, 1, 2)]), (CHAIN, (5, 0, 0, 0), 0, []), ((1, ()), (7,), 0, []),
                ((1, ((0, ((0, 0),)),)), (7,), 0, []), ((1, ((0, ()),)), (7,), 0, None),
                ((3, ((0, ((1, 2),)), (1, ((2, 3),)))), (1, -7, -4), 0, []),
                ((3, ((0, ((1, 2),)), (1, ((2, 3),)))), (0, -7, -1), 0, [(0, 0, 1), (1, 1, 2)])]:
            self.assertEqual(expected, call(self, cause_of, system, floors, event), (system, floors, event))

    def test_a_cause_with_as_few_items_as_can_be(self):
        draw = drawing(32)
        lengths = {}
        for _ in range(1500):
            system = drawn_system(draw, draw.randint(1, 5), 8, 2, 3)
            floors = drawn_floors(draw, system[0], 2)
            for event, order in enumerate(least_from(system, floors)):
                cause = call(self, cause_of, system, floors, event)
                self.assertIs(order is None, cause is None)
                if cause is None:
                    self.assertIs(False, call(self, is_cause, system, floors, event, []))
                    continue
                self.assertIs(True, call(self, is_cause, system, floors, event, cause))
                self.assertTrue(oracle.is_cause(system, floors, event, cause))
                lengths[len(cause)] = lengths.get(len(cause), 0) + 1
                if len(cause) > 1 and None not in least_from(system, floors):
                    self.assertEqual(len(cause), len(oracle.causes(system, floors, event, len(cause))[0]))
        self.assertTrue(min([lengths.get(length, 0) for length in range(4)]) > 5, lengths)

    def test_an_order_is_the_floor_and_the_delays_on_the_way(self):
        draw = drawing(33)
        for _ in range(300):
            system = drawn_system(draw, 10, 40, 60, 3)
            floors = drawn_floors(draw, 10, 600)
            for event, order in enumerate(least_from(system, floors)):
                cause = cause_of(system, floors, event)
                if cause is not None:
                    last = cause[-1][2] if cause else event
                    delays = [dict(system[1][index][1])[other] for _, index, other in cause]
                    self.assertEqual(order, floors[last] + sum(delays))

    def test_causes_of_any_length(self):
        ring = (2, ((0, ((1, 2),)), (1, ((0, -2),))))
        floors = (2, 0)
        for cause, expected in [
                ([], True), ([(0, 0, 1)], True), ([(0, 0, 1), (1, 1, 0)], True),
                ([(0, 0, 1), (1, 1, 0)] * 30 + [(0, 0, 1)], True),
                ([(1, 1, 0)], False), ([(0, 0, 1), (0, 0, 1)], False), ([(0, 1, 1)], False), ([(0, 0, 0)], False)]:
            self.assertIs(expected, call(self, is_cause, ring, floors, 0, cause), cause)

    def test_a_cause_ends_at_a_floor(self):
        system = (3, ((0, ((1, 2),)), (1, ((2, 3),)), (0, ((1, 1), (2, 5)))))
        for cause, expected in [
                ([(0, 0, 1), (1, 1, 2)], True), ([(0, 0, 1)], False), ([], False), ([(0, 2, 2)], False),
                ([(0, 2, 1)], False),
                ([(0, 0, 2)], False), ([(0, 0, 1), (1, 1, 2), (2, 0, 1)], False), ([(1, 1, 2)], False)]:
            self.assertIs(expected, call(self, is_cause, system, (0, 0, 0), 0, cause), cause)

    def test_an_option_that_gives_as_little_as_another_one(self):
        system = (4, ((0, ((1, 2), (2, 1), (3, 3))), (0, ((3, 2),))))
        floors = (0, 0, 1, 0)
        for cause, expected in [
                ([(0, 0, 1)], True), ([(0, 0, 2)], True), ([(0, 0, 3)], False), ([(0, 1, 3)], True),
                ([(0, 1, 1)], False)]:
            self.assertIs(expected, call(self, is_cause, system, floors, 0, cause), cause)

    def test_what_is_no_cause(self):
        good = [(0, 0, 1)]
        self.assertIs(True, call(self, is_cause, SYSTEM, (0, 0, 0), 0, good))
        for thing in [
                ((0, 0, 1),), [[0, 0, 1]], [(0, 0)], [(0, 0, 1, 0)], [(False, 0, 1)], [(0, False, 1)], [(0, 0, True)],
                [(0, 0, None)], [("0", 0, 1)], [(0, -3, 1)], [(0, 3, 1)], [(0, 0, 3)], [(0, 0, -2)], [(0, 0, 2)],
                [0, 0, 1],
                (0, 0, 1), {0: (0, 0, 1)}, None, True, False, "", [None], [()], [[]], [good], good + [None]]:
            self.assertIs(False, call(self, is_cause, SYSTEM, (0, 0, 0), 0, thing), thing)

    def test_any_value_as_a_cause(self):
        system = (3, ((0, ((1, 2),)), (1, ((2, 3),)), (0, ((1, 1), (2, 5)))))
        for floors in [(0, 0, 0), (5, 0, 0), (0, 3, 0)]:
            for thing in ANY + list(exchanged([(0, 0, 1), (1, 1, 2)])):
                right = isinstance(thing, list) and all([isinstance(step, tuple) and len(step) == 3 for step in thing])
                right = right and all([part.__class__ is int for step in thing for part in step])
                for event in range(3):
                    expected = right and oracle.is_cause(system, floors, event, thing)
                    self.assertIs(expected, call(self, is_cause, system, floors, event, thing), repr(thing))

    def test_causes_of_events_that_are_barred(self):
        for thing in ANY + [[(3, 4, 3)], [(3, 4, 3), (3, 4, 3)]]:
            self.assertIs(False, call(self, is_cause, CHAIN, (0, 0, 0, 0), 3, thing))
