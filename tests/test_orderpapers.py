import unittest

import oracle
from leastpowers.leastorders import order_span, some_orders
from leastpowers.orderpapers import above, below, greatest_paper, is_greatest_paper, is_least_paper, least_paper
from samples import ANY, BIG, call, drawing, drawn_table, exchanged, plain_own

ONE = (1, ((((0, 1, 2),), (3, 5)),))
BOTH = (2, ((((0, 0, 0), (1, 0, 0)), (0, 0)),))
LEAST = {0: (0, 1), 1: (2, 0)}
GREATEST = {0: (2, 9), 1: (1, 0)}
CHAIN = (6, ((((0, -20, -20),), (20, 20)),) + tuple([(((at, 20, 20), (at + 1, -20, -20)), None) for at in range(5)]))


def slow_below(table, unknown, order):
    waits = [wait for _, wait in oracle.placed_waits(table)]
    return (table[0] + 1, (*waits, (table[0], ((unknown, 1 - order),))))


def slow_above(table, unknown, order):
    waits = [wait for _, wait in oracle.placed_waits(table)]
    return (table[0] + 1, (*waits, (unknown, ((table[0], order + 1),))))


class OrderPapersTest(unittest.TestCase):
    def check_paper(self, own, there, system, key, check, *args):
        """A paper that is there or not, by the definition, and what the package tells of it itself."""
        self.assertIs(there, own is not None, args)
        if there:
            self.assertEqual(sorted(own), list(own))
            self.assertIn(key, own)
            self.assertTrue(plain_own(system, own) and oracle.are_own_waits(system, own))
            self.assertIs(True, call(self, check, *args, own))

    def check(self, table, unknown, order, not_less, not_greater):
        """Whether there is a paper that the unknown's order is not less, and one that it is not greater."""
        args = (table, unknown, order)
        own = call(self, least_paper, *args)
        self.check_paper(own, not_less, slow_below(*args), table[0], is_least_paper, *args)
        own = call(self, greatest_paper, *args)
        self.check_paper(own, not_greater, slow_above(*args), unknown, is_greatest_paper, *args)

    def check_span(self, table, unknown, span):
        """The papers at both ends of a span and one step beyond, span being () if no orders stand at all."""
        for order in [-240, -3, 0, 3, 240]:
            if span is None or span == ():
                self.check(table, unknown, order, True, True)
                continue
            for at in [order, *[end + step for end in span if end is not None for step in (-1, 0, 1)]]:
                self.check(table, unknown, at, span[0] is not None and at <= span[0],
                    span[1] is not None and at >= span[1])

    def test_systems(self):
        waits = ((0, ((1, 1),)), (1, ((0, -4),)))
        self.assertEqual((2, (*waits, (1, ((0, 0),)))), call(self, below, ONE, 0, 1))
        self.assertEqual((2, (*waits, (1, ((0, 241),)))), call(self, below, ONE, 0, -240))
        self.assertEqual((2, (*waits, (0, ((1, 5),)))), call(self, above, ONE, 0, 4))
        self.assertEqual((2, (*waits, (0, ((1, -239),)))), call(self, above, ONE, 0, -240))
        self.assertEqual((4, ((3, ((2, 1 - BIG),)),)), call(self, below, (3, ()), 2, BIG))
        self.assertEqual((4, ((2, ((3, BIG + 1),)),)), call(self, above, (3, ()), 2, BIG))

    def test_papers_of_spans(self):
        never = (1, (((), (0, 0)),))
        for table, unknown, span in [
                (ONE, 0, (1, 4)), (BOTH, 0, (None, None)), (BOTH, 1, (None, None)),
                ((1, ((((0, 1, 2),), (3, None)),)), 0, (1, None)), ((1, ((((0, 1, None),), (3, 5)),)), 0, (None, 4)),
                ((1, ((((0, 0, 0),), None),)), 0, None), (never, 0, ()), ((2, never[1]), 1, ()),
                (CHAIN, 5, (240, 240)), (CHAIN, 0, (40, 40)),
                ((1, ((((0, 0, 0), (0, 0, 0)), (4, 4)),)), 0, (None, 4)),
                ((2, ((((0, 0, 0), (1, 0, 3)), None), (((0, 0, 0),), (2, 4)))), 1, (-1, 4))]:
            self.check_span(table, unknown, span)

    def test_drawn_tables(self):
        draw = drawing(88)
        ends, never = 0, 0
        for _ in range(120):
            table = drawn_table(draw, draw.randint(1, 6), 6, 5)
            unknown = draw.randrange(table[0])
            span = () if some_orders(table) is None else order_span(table, unknown)
            self.check_span(table, unknown, span)
            never += span == ()
            ends += len([end for end in span or () if end is not None])
        self.assertTrue(ends > 20 and never > 20, (ends, never))

    def test_what_papers_are(self):
        for order, thing, expected in [
                (1, LEAST, True), (0, LEAST, True), (2, LEAST, False), (1, {0: (0, 2), 1: (2, 0)}, False),
                (1, {0: (0, 1), 1: (2, 1)}, False), (1, {}, False), (1, {0: (0, 1)}, False)]:
            self.assertIs(expected, call(self, is_least_paper, ONE, 0, order, thing), (order, thing))
        for order, thing, expected in [
                (4, GREATEST, True), (5, GREATEST, True), (3, GREATEST, False), (4, {0: (2, 10), 1: (1, 0)}, False),
                (4, {0: (2, 9), 1: (1, 1)}, False), (4, {0: (2, 10), 1: (1, 1)}, True), (4, {}, False),
                (4, {1: (1, 0)}, False)]:
            self.assertIs(expected, call(self, is_greatest_paper, ONE, 0, order, thing), (order, thing))

    def test_papers_have_the_event_as_a_key(self):
        # The unknown 0 is always 0, and the right side happens; or the other way round.
        silent = (1, ((((0, 0, 0),), None),))
        self.assertIs(False, call(self, is_least_paper, silent, 0, 0, {0: (0, 0)}))
        self.assertIs(True, call(self, is_least_paper, silent, 0, 0, {0: (0, 0), 1: (1, -9)}))
        self.assertIs(True, call(self, is_greatest_paper, silent, 0, 0, {0: (0, 0)}))
        self.assertIs(False, call(self, is_greatest_paper, silent, 0, 0, {}))
        never = (1, (((), (0, 0)),))
        self.assertIs(True, call(self, is_least_paper, never, 0, 0, {1: (0, 0)}))
        self.assertIs(False, call(self, is_greatest_paper, never, 0, 0, {1: (0, 0)}))
        self.assertIs(True, call(self, is_greatest_paper, never, 0, 0, {0: (1, 0), 1: (0, 0)}))

    def test_any_value_as_a_paper(self):
        for thing in ANY + list(exchanged(LEAST)) + list(exchanged(GREATEST)):
            for order in [1, 2, 4]:
                system = slow_below(ONE, 0, order)
                expected = plain_own(system, thing) and oracle.are_own_waits(system, thing) and 1 in thing
                self.assertIs(expected, call(self, is_least_paper, ONE, 0, order, thing), repr(thing))
                system = slow_above(ONE, 0, order)
                expected = plain_own(system, thing) and oracle.are_own_waits(system, thing) and 0 in thing
                self.assertIs(expected, call(self, is_greatest_paper, ONE, 0, order, thing), repr(thing))
