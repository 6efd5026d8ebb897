import itertools
import unittest

import oracle
from leastpowers.errors import TooMany
from leastpowers.lots import first_bar, greatest_frees, least_bars, system_of_lot
from samples import call, drawing, drawn_system, drawn_wait, failed

LOOP = (2, ((0, ((1, 1),)), (1, ((0, 0),)), (0, ()), (1, ((0, -1),))))


def all_lots(system):
    many = len(system[1])
    return [lot for size in range(many + 1) for lot in itertools.combinations(range(many), size)]


def is_barred(system, lot, event):
    waits = tuple([system[1][index] for index in lot])
    return oracle.least_plan((system[0], waits))[event] is None


def slow_bars(system, event):
    """The least lots that bar an event, and the greatest ones that do not, found by trying all."""
    bars = [set(lot) for lot in all_lots(system) if is_barred(system, lot, event)]
    frees = [set(lot) for lot in all_lots(system) if not is_barred(system, lot, event)]
    least = [bar for bar in bars if not any([other < bar for other in bars])]
    greatest = [free for free in frees if not any([other > free for other in frees])]
    return [sorted([tuple(sorted(lot)) for lot in lots]) for lots in (least, greatest)]


def slow_first(system, event):
    lot = list(range(len(system[1])))
    for index in lot[::-1]:
        rest = [other for other in lot if other != index]
        lot = rest if is_barred(system, rest, event) else lot
    return tuple(lot) if is_barred(system, lot, event) else None


class LotsTest(unittest.TestCase):
    def check(self, system, event, bars, frees, first):
        self.assertEqual(bars, call(self, least_bars, system, event), (system, event))
        self.assertEqual(frees, call(self, greatest_frees, system, event), (system, event))
        self.assertEqual(first, call(self, first_bar, system, event), (system, event))

    def test_systems_of_lots(self):
        for lot in [(), (0,), (3,), (0, 2), (1, 2, 3), (0, 1, 2, 3)]:
            waits = tuple([LOOP[1][index] for index in lot])
            self.assertEqual((2, waits), call(self, system_of_lot, LOOP, lot))
        self.assertEqual((0, ()), call(self, system_of_lot, (0, ()), ()))

    def test_lots_that_bar_and_lots_that_do_not(self):
        never, itself = (0, ()), (0, ((0, 1),))
        for system, event, bars, frees, first in [
                (LOOP, 0, [(0, 1), (2,)], [(0, 3), (1, 3)], (0, 1)),
                (LOOP, 1, [(0, 1), (1, 2), (2, 3)], [(0, 2), (0, 3), (1, 3)], (0, 1)),
                ((1, (never,)), 0, [(0,)], [()], (0,)), ((1, (itself,)), 0, [(0,)], [()], (0,)),
                ((1, (never, itself, never)), 0, [(0,), (1,), (2,)], [()], (0,)),
                ((2, (never, (1, ((0, 3),)))), 1, [(0, 1)], [(0,), (1,)], (0, 1)),
                ((2, (never, (1, ((0, 3),)), never)), 1, [(0, 1), (1, 2)], [(0, 2), (1,)], (0, 1))]:
            self.check(system, event, bars, frees, first)

    def test_events_that_are_not_barred(self):
        for system, event in [((1, ()), 0), ((2, ((0, ()),)), 1), ((2, ((0, ((1, 5),)), (1, ((0, -5),)))), 0)]:
            self.check(system, event, [], [tuple(range(len(system[1])))], None)

    def test_drawn_systems(self):
        draw = drawing(66)
        several = 0
        for _ in range(200):
            system = drawn_system(draw, draw.randint(1, 4), 7, draw.choice([0, 1, 3, 60]), 2)
            event = draw.randrange(system[0])
            bars, frees = slow_bars(system, event)
            self.check(system, event, bars, frees, slow_first(system, event))
            several += len(bars) > 1
        self.assertGreater(several, 30)

    def test_twelve_waits(self):
        ring = (4, tuple([(index // 3, (((index // 3 + 1) % 4, 1),)) for index in range(12)]))
        bars = [tuple(lot) for lot in itertools.product([0, 1, 2], [3, 4, 5], [6, 7, 8], [9, 10, 11])]
        frees = [tuple([index for index in range(12) if index // 3 != event]) for event in range(4)]
        self.check(ring, 2, bars, sorted(frees), (0, 3, 6, 9))
        self.check((12, tuple([(event, ()) for event in range(12)])), 11, [(11,)], [tuple(range(11))], (11,))
        self.check((2, ((0, ((1, -60),)),) * 12), 0, [], [tuple(range(12))], None)

    def test_each_least_lot_meets_what_each_greatest_one_lacks(self):
        draw = drawing(67)
        for _ in range(20):
            system = (3, tuple([drawn_wait(draw, 3, 2, 2) for _ in range(12)]))
            bars, frees = call(self, least_bars, system, 0), call(self, greatest_frees, system, 0)
            for bar in bars:
                self.assertTrue(is_barred(system, bar, 0))
                self.assertTrue(all([set(bar) - set(free) for free in frees]))
                for index in bar:
                    self.assertTrue(any([set(bar) - set(free) == {index} for free in frees]), (bar, index))
            for free in frees:
                self.assertFalse(is_barred(system, free, 0))
                for index in set(range(12)) - set(free):
                    self.assertTrue(any([set(bar) - set(free) == {index} for bar in bars]), (free, index))

    def test_more_than_twelve_waits(self):
        for system in [(2, LOOP[1] * 3 + LOOP[1][:1]), (2, LOOP[1] * 10), (1, ((0, ((0, 0),)),) * 13)]:
            self.assertEqual(12, failed(self, TooMany, least_bars, system, 0).most)
            self.assertEqual(12, failed(self, TooMany, greatest_frees, system, 0).most)
        self.assertEqual((0, 1), call(self, first_bar, (2, LOOP[1] * 10), 0))
        self.assertIsNone(call(self, first_bar, (1, ((0, ((0, 0),)),) * 13), 0))

    def test_drawn_first_bars(self):
        draw = drawing(68)
        found = 0
        for _ in range(60):
            system = drawn_system(draw, 10, 40, draw.choice([3, 60]), 2)
            for event in range(0, 10, 4):
                lot = call(self, first_bar, system, event)
                self.assertEqual(slow_first(system, event), lot)
                found += lot is not None and len(system[1]) > 12
        self.assertGreater(found, 40)
