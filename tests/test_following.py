import unittest

import oracle
from leastpowers.following import contrary, counter_plan, follow_paper, follows, is_follow_paper
from leastpowers.forms import is_plan
from samples import ANY, BIG, call, drawing, drawn_system, drawn_wait, exchanged, plain_own

CHAIN = (3, ((0, ((1, 2),)), (1, ((2, 3),))))
WAIT = (0, ((2, 5),))
PAPER = {0: (0, 0), 1: (1, -5), 2: (2, -13)}


class FollowingTest(unittest.TestCase):
    def check(self, system, wait, expected):
        """Whether a wait follows, with all that shows it."""
        self.assertIs(expected, call(self, follows, system, wait), (system, wait))
        plan, own = call(self, counter_plan, system, wait), call(self, follow_paper, system, wait)
        self.assertIs(expected, plan is None)
        self.assertIs(expected, own is not None)
        if expected:
            self.assertEqual(sorted(own), list(own))
            self.assertIn(wait[0], own)
            self.assertTrue(oracle.are_own_waits(contrary(system, wait), own))
            self.assertIs(True, call(self, is_follow_paper, system, wait, own))
        else:
            self.assertTrue(is_plan(system, plan))
            self.assertTrue(oracle.keeps(system, plan))
            self.assertFalse(oracle.keeps((system[0], (wait,)), plan))

    def test_contrary(self):
        self.assertEqual((3, CHAIN[1] + ((2, ((0, -4),)),)), call(self, contrary, CHAIN, WAIT))
        self.assertEqual(CHAIN, call(self, contrary, CHAIN, (1, ())))
        wait = (1, ((0, -7), (1, 0), (2, 1)))
        self.assertEqual((3, CHAIN[1] + ((0, ((1, 8),)), (1, ((1, 1),)), (2, ((1, 0),)))),
            call(self, contrary, CHAIN, wait))
        self.assertEqual((1, ((0, ((0, 1 - BIG),)),)), call(self, contrary, (1, ()), (0, ((0, BIG),))))

    def test_waits_that_follow_and_waits_that_just_do_not(self):
        for system, wait, expected in [
                (CHAIN, (0, ((2, 5),)), True), (CHAIN, (0, ((2, 6),)), False), (CHAIN, (0, ((1, 2),)), True),
                (CHAIN, (0, ((1, 3),)), False), (CHAIN, (1, ((0, -9),)), False), (CHAIN, (2, ((2, 1),)), False),
                (CHAIN, (0, ((1, 9), (2, 5))), True), (CHAIN, (0, ((1, 9), (2, 6))), False),
                (CHAIN, (0, ((1, 2), (2, 600))), True), (CHAIN, (0, ((1, 3), (2, 600))), False),
                (CHAIN, (0, ((1, -600),)), True), (CHAIN, (0, ()), False), ((1, ()), (0, ()), False),
                ((2, ((0, ((1, BIG),)),)), (0, ((1, BIG),)), True),
                ((2, ((0, ((1, BIG),)),)), (0, ((1, BIG + 1),)), False)]:
            self.check(system, wait, expected)

    def test_waits_of_an_event_for_itself(self):
        for delay, expected in [(0, True), (-1, True), (-60, True), (1, False), (60, False)]:
            self.check((2, ()), (0, ((0, delay),)), expected)
            self.check((2, ()), (0, ((0, delay), (1, 3))), expected)
            self.check((2, ((0, ((1, 3),)),)), (0, ((0, delay), (1, 3))), True)

    def test_waits_of_barred_events(self):
        system = (3, ((0, ()), (1, ((0, 1),)), (2, ((2, 1),))))
        for event in range(3):
            for options in [(), ((event, 1),), ((0, 60), (1, 60), (2, 60))]:
                self.check(system, (event, options), True)

    def test_waits_for_barred_events(self):
        system = (3, ((0, ()),))
        self.check(system, (1, ((0, -60),)), False)
        self.check(system, (1, ((0, -60), (2, -60))), False)
        self.check((3, ((0, ()), (1, ((0, 7), (2, 3))))), (1, ((2, 3),)), True)
        self.check((3, ((0, ()), (1, ((0, 7), (2, 3))))), (1, ((2, 4),)), False)

    def test_several_options_follow_from_several_waits(self):
        system = (4, ((0, ((1, 1), (2, 1))), (1, ((3, 4),)), (2, ((3, 2),))))
        self.check(system, (0, ((3, 3),)), True)
        self.check(system, (0, ((3, 4),)), False)
        self.check(system, (0, ((1, 2), (3, 3))), True)
        self.check(system, (0, ((1, 1), (3, 3))), True)
        self.check(system, (0, ((1, 1), (3, 4))), False)

    def test_drawn_waits(self):
        draw = drawing(64)
        found = {True: 0, False: 0}
        for _ in range(250):
            system = drawn_system(draw, draw.randint(1, 3), 5, draw.choice([0, 1, 2]), 2)
            wait = drawn_wait(draw, system[0], 2, 2)
            expected = oracle.follows(system, wait)
            self.check(system, wait, expected)
            found[expected] += 1
        self.assertTrue(min(found.values()) > 60, found)

    def test_drawn_waits_of_many_events(self):
        draw = drawing(65)
        found = {True: 0, False: 0}
        for _ in range(400):
            system = drawn_system(draw, 10, 40, draw.choice([3, 60]), 3)
            wait = drawn_wait(draw, 10, 60, 4)
            event, options = wait
            plan = oracle.least_plan((10, system[1] + tuple([(other, ((event, 1 - by),)) for other, by in options])))
            self.check(system, wait, plan[event] is None)
            found[plan[event] is None] += 1
        self.assertTrue(min(found.values()) > 60, found)

    def test_papers(self):
        for thing, expected in [
                (PAPER, True), ({0: (0, -12), 1: (1, -7), 2: (2, -15)}, False),
                ({2: (2, 0), 1: (1, 8), 0: (0, 13)}, True), ({0: (0, 1), 1: (1, -5), 2: (2, -13)}, False), ({}, False),
                ({1: (1, -5), 2: (2, -13)}, False)]:
            self.assertIs(expected, call(self, is_follow_paper, CHAIN, WAIT, thing), thing)
        for wait in [(0, ((2, 6),)), (1, ((2, 5),)), (2, ((0, 5),))]:
            self.assertIs(False, call(self, is_follow_paper, CHAIN, wait, PAPER), wait)

    def test_papers_have_the_event_as_a_key(self):
        system = (2, ((0, ()),))
        for thing, expected in [({0: (0, 5)}, True), ({}, False)]:
            self.assertIs(expected, call(self, is_follow_paper, system, (0, ((1, 3),)), thing))
            self.assertIs(False, call(self, is_follow_paper, system, (1, ((0, 3),)), thing))

    def test_any_value_as_a_paper(self):
        for system, wait in [(CHAIN, WAIT), (CHAIN, (0, ((2, 6),))), ((2, ((0, ()), (1, ()))), (0, ())),
                ((2, ((0, ()), (1, ()))), (1, ()))]:
            for thing in ANY + list(exchanged(PAPER)) + list(exchanged({0: (0, 0), 1: (1, 1)})):
                own = plain_own(contrary(system, wait), thing)
                expected = own and oracle.are_own_waits(contrary(system, wait), thing) and wait[0] in thing
                self.assertIs(expected, call(self, is_follow_paper, system, wait, thing), repr(thing))
