import unittest

import oracle
from leastpowers.alike import needless_waits, parting_plan, says_same, shorter_wait, spare_system
from leastpowers.forms import is_plan
from samples import BIG, call, drawing, drawn_system, drawn_wait

CHAIN = (3, ((0, ((1, 2),)), (1, ((2, 3),))))
MORE = (3, CHAIN[1] + ((0, ((2, 4),)),))


def without(system, index):
    return (system[0], system[1][:index] + system[1][index + 1:])


def with_wait(system, index, wait):
    return (system[0], system[1][:index] + (wait,) + system[1][index + 1:])


def slow_spare(system):
    for index in reversed(range(len(system[1]))):
        system = without(system, index) if oracle.follows(without(system, index), system[1][index]) else system
    return system


def slow_shorter(system, index):
    event, options = system[1][index]
    for place in reversed(range(len(options))):
        rest = options[:place] + options[place + 1:]
        options = rest if oracle.same_plans(system, with_wait(system, index, (event, rest))) else options
    return (event, options)


class AlikeTest(unittest.TestCase):
    def check_parted(self, one, other, place):
        """That there is a plan that keeps one of two systems alone, at this place, or none if place is None."""
        told = call(self, parting_plan, one, other)
        self.assertIs(place is None, call(self, says_same, one, other), (one, other))
        self.assertEqual(place, told if told is None else told[0], (one, other))
        if place is not None:
            self.assertEqual(2, len(told))
            kept, broken = [(one, other), (other, one)][place]
            self.assertTrue(is_plan(one, told[1]))
            self.assertTrue(oracle.keeps(kept, told[1]))
            self.assertFalse(oracle.keeps(broken, told[1]))

    def test_parting_plans(self):
        tight = (3, ((0, ((1, 3),)),) + CHAIN[1][1:])
        for one, other, place in [
                (CHAIN, MORE, None), (MORE, CHAIN, None), (CHAIN, CHAIN, None), (CHAIN, (3, CHAIN[1][::-1]), None),
                (CHAIN, tight, 0), (tight, CHAIN, 1), ((3, ()), CHAIN, 0), (CHAIN, (3, ()), 1),
                ((3, CHAIN[1][:1]), (3, CHAIN[1][1:]), 0), ((3, CHAIN[1][1:]), (3, CHAIN[1][:1]), 0),
                ((0, ()), (0, ()), None), ((1, ()), (1, ((0, ((0, 0),)),)), None), ((1, ()), (1, ((0, ()),)), 0),
                ((1, ((0, ((0, 1),)),)), (1, ((0, ()),)), None), ((1, ((0, ()),)), (1, ()), 1),
                ((2, ((0, ((1, BIG),)),)), (2, ((0, ((1, BIG - 1),)),)), 1)]:
            self.check_parted(one, other, place)

    def test_drawn_systems(self):
        draw = drawing(69)
        kinds = {}
        for _ in range(200):
            one = drawn_system(draw, draw.randint(1, 3), 4, 1, 2)
            other = (one[0], tuple(draw.sample(one[1], len(one[1]))) + (drawn_wait(draw, one[0], 1, 2),))
            other = without(other, draw.randrange(len(other[1])))
            if draw.random() < 0.3 and one[1]:
                one = without(one, draw.randrange(len(one[1])))
            place = 1 if not all([oracle.follows(other, wait) for wait in one[1]]) else None
            place = 0 if not all([oracle.follows(one, wait) for wait in other[1]]) else place
            self.check_parted(one, other, place)
            kinds[place] = kinds.get(place, 0) + 1
        self.assertTrue(len(kinds) == 3 and min(kinds.values()) > 15, kinds)

    def test_needless_waits(self):
        for system, expected in [
                (CHAIN, []), (MORE, [2]), ((3, CHAIN[1] + ((0, ((2, 5),)),)), [2]),
                ((3, CHAIN[1] + ((0, ((2, 6),)),)), []), ((3, CHAIN[1] + ((1, ((0, -2),)),)), []), ((0, ()), []),
                ((2, ((0, ((1, 1),)),) * 2), [0, 1]), ((2, ((0, ((1, 1),)), (0, ((1, 2),)))), [0]),
                ((2, ((0, ((0, 0),)), (0, ()), (1, ((1, -1),)))), [0, 2]),
                ((2, ((0, ()), (0, ((1, 3),)), (0, ((0, 1),)))), [0, 1, 2]),
                ((2, ((0, ((1, 1),)), (1, ((0, 0),)), (0, ()), (1, ()))), [0, 1, 2, 3])]:
            self.assertEqual(expected, call(self, needless_waits, system), system)

    def test_waits_are_left_out_from_the_last_one_on(self):
        for system, expected in [
                (CHAIN, (0, 1)), (MORE, (0, 1)), ((2, ((0, ((1, 1),)),) * 3), (0,)), ((0, ()), ()),
                ((2, ((0, ()), (0, ((1, 3),)), (0, ((0, 1),)))), (0,)),
                ((2, ((0, ((0, 1),)), (0, ((1, 3),)), (0, ()))), (0,)),
                ((2, ((0, ((1, 3),)), (0, ()), (0, ((0, 1),)))), (1,)),
                ((2, ((0, ((1, 1),)), (1, ((0, 0),)), (0, ()), (1, ()))), (0, 1)),
                ((2, ((0, ()), (1, ()), (0, ((1, 1),)), (1, ((0, 0),)))), (0, 1)),
                ((3, ((0, ((2, 4),)),) + CHAIN[1]), (1, 2))]:
            waits = tuple([system[1][index] for index in expected])
            self.assertEqual((system[0], waits), call(self, spare_system, system), system)

    def test_drawn_needless_waits_and_spare_systems(self):
        draw = drawing(70)
        fewer = 0
        for _ in range(80):
            system = drawn_system(draw, draw.randint(1, 3), 5, 1, 2)
            rows = range(len(system[1]))
            needless = [index for index in rows if oracle.follows(without(system, index), system[1][index])]
            self.assertEqual(needless, call(self, needless_waits, system))
            spare = call(self, spare_system, system)
            self.assertEqual(slow_spare(system), spare)
            fewer += len(needless) > len(system[1]) - len(spare[1]) > 0
        self.assertGreater(fewer, 5)

    def test_spare_systems_of_many_waits(self):
        draw = drawing(71)
        for _ in range(10):
            system = drawn_system(draw, 10, 40, 60, 3)
            spare = call(self, spare_system, system)
            self.assertIs(True, call(self, says_same, system, spare))
            self.assertEqual([], call(self, needless_waits, spare))

    def test_shorter_waits(self):
        for system, index, expected in [
                ((3, ((0, ((1, 2), (2, 2))), (2, ((1, 0),)))), 0, ((1, 2),)),
                ((3, ((0, ((1, 2), (2, 2))), (1, ((2, 0),)))), 0, ((2, 2),)),
                ((3, ((0, ((1, 2), (2, 2))), (1, ((2, 0),)), (2, ((1, 0),)))), 0, ((1, 2),)),
                ((3, ((0, ((1, 2), (2, 2))),)), 0, ((1, 2), (2, 2))),
                ((3, ((0, ((1, 2), (2, 2))), (2, ((1, 1),)))), 0, ((1, 2),)),
                ((3, ((0, ((1, 2), (2, 2))), (2, ((1, -1),)))), 0, ((1, 2), (2, 2))),
                ((3, ((0, ((1, 2), (2, 2))), (0, ()))), 0, ()), ((3, ((0, ((1, 2), (2, 2))), (1, ()))), 0, ((2, 2),)),
                ((2, ((0, ((0, 1), (1, 2))),)), 0, ((1, 2),)), ((2, ((0, ((0, 0), (1, 2))),)), 0, ((0, 0),)),
                ((2, ((0, ((0, 1),)),)), 0, ()), ((2, ((0, ((0, 0),)),)), 0, ((0, 0),)), ((1, ((0, ()),)), 0, ()),
                ((2, ((0, ((1, 2),)), (0, ((1, 2),)))), 1, ((1, 2),)),
                ((4, ((0, ((1, 1), (2, 1), (3, 9))), (3, ((1, 0), (2, 0))))), 0, ((1, 1), (2, 1)))]:
            wait = (system[1][index][0], expected)
            self.assertEqual(wait, call(self, shorter_wait, system, index), (system, index))

    def test_drawn_shorter_waits(self):
        draw = drawing(72)
        shorter = 0
        for _ in range(100):
            system = drawn_system(draw, draw.randint(2, 3), 4, 1, 3)
            for index in range(min(2, len(system[1]))):
                wait = call(self, shorter_wait, system, index)
                self.assertEqual(slow_shorter(system, index), wait, (system, index))
                shorter += 0 < len(wait[1]) < len(system[1][index][1])
        self.assertGreater(shorter, 10)
