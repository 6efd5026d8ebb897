import unittest

import oracle
from leastpowers.errors import NoPlan
from leastpowers.forms import is_plan
from leastpowers.gaps import gap_paper, gap_span, plan_with_gap, with_gap
from samples import BIG, call, drawing, drawn_system, failed

SYSTEM = (3, ((0, ((1, 2), (2, 5))), (1, ((0, -3),)), (2, ((2, 0),))))


def can_have(system, one, other, gap):
    """Whether some plan, in which both happen, has at least this gap."""
    plan = oracle.least_plan(with_gap(system, one, other, gap))
    return plan[one] is not None and plan[other] is not None


def slow_span(system, one, other):
    """The least and the greatest gap, found by trying one after another."""
    top = system[0] * max([abs(delay) for _, options in system[1] for _, delay in options], default=0)
    greatest = max([gap for gap in range(-top, top + 2) if can_have(system, one, other, gap)], default=None)
    least = max([gap for gap in range(-top, top + 2) if can_have(system, other, one, gap)], default=None)
    return (None if least == top + 1 else -least, None if greatest == top + 1 else greatest)


class GapsTest(unittest.TestCase):
    def check_gap(self, system, one, other, gap, there, more_there):
        """Whether a plan has just this gap, and whether one has at least this gap, is told with proofs."""
        plan = call(self, plan_with_gap, system, one, other, gap)
        self.assertIs(there, plan is not None, (system, one, other, gap))
        if there:
            self.assertTrue(is_plan(system, plan))
            self.assertTrue(oracle.keeps(system, plan))
            self.assertEqual(gap, plan[other] - plan[one])
        own = call(self, gap_paper, system, one, other, gap)
        self.assertIs(more_there, own is None, (system, one, other, gap))
        if not more_there:
            self.assertIn(other, own)
            self.assertEqual(sorted(own), list(own))
            self.assertTrue(oracle.are_own_waits(with_gap(system, one, other, gap), own))

    def check_ends(self, system, one, other, least, greatest):
        """All gaps near the ends of a span, or some if there is no end."""
        for gap in [-90 if least is None else least, -3, 0, 3, 90 if greatest is None else greatest]:
            for at in [gap - 1, gap, gap + 1]:
                more_there = greatest is None or at <= greatest
                self.check_gap(system, one, other, at, more_there and (least is None or at >= least), more_there)

    def test_with_gap(self):
        self.assertEqual((3, SYSTEM[1] + ((0, ((1, 4),)),)), call(self, with_gap, SYSTEM, 1, 0, 4))
        self.assertEqual((2, ((1, ((0, -600),)),)), call(self, with_gap, (2, ()), 0, 1, -600))

    def test_spans(self):
        for system, one, other, expected in [
                (SYSTEM, 1, 0, (None, 3)), (SYSTEM, 0, 1, (-3, None)), (SYSTEM, 2, 1, (None, None)),
                ((2, ()), 0, 1, (None, None)),
                ((2, ((0, ((1, 5),)),)), 0, 1, (None, -5)), ((2, ((0, ((1, 5),)),)), 1, 0, (5, None)),
                ((2, ((0, ((1, 5),)), (1, ((0, -5),)))), 1, 0, (5, 5)),
                ((2, ((0, ((1, 5),)), (1, ((0, -9),)))), 1, 0, (5, 9)),
                ((2, ((0, ((1, 0),)), (1, ((0, 0),)))), 1, 0, (0, 0)),
                ((3, ((0, ((1, 2),)), (1, ((2, 3),)))), 0, 2, (None, -5)),
                ((2, ((0, ((0, 0), (1, 5))),)), 0, 1, (None, None)), ((2, ((0, ((0, 1), (1, 5))),)), 0, 1, (None, -5)),
                ((2, ((0, ((1, BIG),)), (1, ((0, -BIG - 3),)))), 1, 0, (BIG, BIG + 3))]:
            self.assertEqual(expected, call(self, gap_span, system, one, other), (system, one, other))
            self.check_ends(system, one, other, *expected)

    def test_the_widest_spans(self):
        ring = tuple([(event, ((event + 1, 60),)) for event in range(9)] + [(9, ((0, -540),))])
        self.assertEqual((-540, -540), call(self, gap_span, (10, ring), 0, 9))
        chain = (10, ring[:9])
        self.assertEqual((None, -540), call(self, gap_span, chain, 0, 9))
        self.assertEqual((540, None), call(self, gap_span, chain, 9, 0))
        self.check_ends(chain, 9, 0, 540, None)

    def test_barred_events(self):
        system = (4, ((0, ()), (1, ((0, 1),))))
        for one, other, expected in [(0, 1, 0), (1, 0, 1), (0, 2, 0), (2, 0, 0), (1, 3, 1), (3, 1, 1)]:
            self.assertEqual(expected, failed(self, NoPlan, gap_span, system, one, other).event)
            for gap in [-600, -1, 0, 1, 600]:
                self.assertIsNone(call(self, plan_with_gap, system, one, other, gap))
        self.assertEqual((None, None), call(self, gap_span, system, 2, 3))

    def test_papers_of_barred_events(self):
        system = (4, ((0, ()), (1, ((0, 1),))))
        for one, other, there in [(0, 1, True), (1, 0, True), (0, 2, True), (2, 0, True), (2, 3, False)]:
            for gap in [-600, 0, 600]:
                own = call(self, gap_paper, system, one, other, gap)
                self.assertIs(there, own is not None)
                if there:
                    self.assertIn(other, own)
                    self.assertTrue(oracle.are_own_waits(with_gap(system, one, other, gap), own))

    def test_drawn_spans(self):
        draw = drawing(34)
        kinds = {}
        for _ in range(400):
            system = drawn_system(draw, draw.randint(2, 5), 9, draw.choice([0, 1, 3, 6]), 3)
            one, other = draw.sample(range(system[0]), 2)
            plan = oracle.least_plan(system)
            if None in (plan[one], plan[other]):
                barred = one if plan[one] is None else other
                self.assertEqual(barred, failed(self, NoPlan, gap_span, system, one, other).event)
                self.assertIsNone(call(self, plan_with_gap, system, one, other, draw.randint(-9, 9)))
                continue
            least, greatest = call(self, gap_span, system, one, other)
            self.assertEqual(slow_span(system, one, other), (least, greatest), (system, one, other))
            self.check_ends(system, one, other, least, greatest)
            kind = (least is None, greatest is None)
            kinds[kind] = kinds.get(kind, 0) + 1
        self.assertTrue(len(kinds) == 4 and min(kinds.values()) > 10, kinds)

    def test_all_gaps_of_a_span_are_there_and_no_others(self):
        draw = drawing(35)
        for _ in range(40):
            system = drawn_system(draw, 3, 5, 2, 2)
            found = [plan for plan in oracle.plans(system, -3, 3) if plan[0] is not None and plan[2] is not None]
            for plan in found:
                least, greatest = gap_span(system, 0, 2)
                gap = plan[2] - plan[0]
                self.assertTrue((least is None or least <= gap) and (greatest is None or gap <= greatest))
                self.assertIsNotNone(plan_with_gap(system, 0, 2, gap))

    def test_full_systems(self):
        draw = drawing(36)
        ends = 0
        for most in [1, 2, 3, 6]:
            for _ in range(25):
                system = drawn_system(draw, 10, 14 if most == 1 else 40, 60, most)
                plan = oracle.least_plan(system)
                happening = [event for event in range(10) if plan[event] is not None]
                if len(happening) < 2:
                    continue
                one, other = draw.sample(happening, 2)
                least, greatest = call(self, gap_span, system, one, other)
                ends += (least is not None) + (greatest is not None)
                for there, gap in [(True, greatest), (True, least), (False, greatest), (False, least)]:
                    if gap is not None and there:
                        self.check_gap(system, one, other, gap, True, True)
                if greatest is not None:
                    self.assertIs(False, can_have(system, one, other, greatest + 1))
                    self.check_gap(system, one, other, greatest + 1, False, False)
                if least is not None:
                    self.assertIs(False, can_have(system, other, one, 1 - least))
                    self.check_gap(system, one, other, least - 1, False, True)
        self.assertGreater(ends, 20)
