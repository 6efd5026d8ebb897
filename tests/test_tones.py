import unittest

import oracle
from leastpowers.forms import are_orders, is_table
from leastpowers.ownrows import is_own, own_rows
from leastpowers.silence import loud_orders
from leastpowers.tables import without_rights
from leastpowers.tellings import telling_for
from leastpowers.tones import no_tone, table_at, tone_orders
from samples import BIG, call, drawing, drawn_fraction, drawn_table
from test_determinants import refuse
from test_silence import square_table

TONED = (2, ((((0, 2, 2), (1, 1, 1)), None), (((0, 1, 1), (1, 5, 5)), (0, None))))
HALF = (2, ((((1, 0, 0),), None), (((0, 1, 1),), None)))


def drawn_square(draw, many):
    """A table with as many rows as unknowns, silent or not."""
    if draw.random() < 0.5:
        return square_table(draw, many)
    rows = ()
    while len(rows) < many:
        rows += drawn_table(draw, many, 2, 3)[1]
    return (many, rows[:many])


def drawn_s(draw):
    return drawn_fraction(draw, 6)


class TonesTest(unittest.TestCase):
    def test_the_example(self):
        expected = (2, ((((0, 4, 4), (1, 2, 2), (0, 3, 3)), None), (((0, 2, 2), (1, 10, 10), (1, 3, 3)), None)))
        self.assertEqual(expected, call(self, table_at, TONED, (3, 2)))
        self.assertEqual((1, 0), call(self, no_tone, TONED, (3, 2))[0])
        self.assertEqual((0, 1), call(self, no_tone, TONED, (1, 2))[0])
        self.assertIsNone(call(self, tone_orders, TONED, (3, 2)))
        self.assertIsNone(call(self, no_tone, TONED, (1, 1)))

    def test_tables_that_are_not_square(self):
        for s in [(0, 1), (-3, 2)]:
            for function in [table_at, no_tone, tone_orders]:
                refuse(self, function, 1, s)

    def test_tables_at_s(self):
        table = (2, ((((1, -1, None), (0, 2, 3)), (4, 5)), ((), (0, None))))
        for s, rows in [
                ((0, 1), (((1, -1, None), (0, 2, 3), (0, 0, 0)), ((1, 0, 0),))),
                ((-7, 1), (((1, -1, None), (0, 2, 3), (0, -7, -7)), ((1, -7, -7),))),
                ((-7, 3), (((1, -3, None), (0, 6, 9), (0, -7, -7)), ((1, -7, -7),))),
                ((BIG, 10), (((1, -10, None), (0, 20, 30), (0, BIG, BIG)), ((1, BIG, BIG),)))]:
            self.assertEqual((2, tuple([(sides, None) for sides in rows])), call(self, table_at, table, s))
        self.assertEqual((0, ()), call(self, table_at, (0, ()), (1, 2)))

    def test_no_unknowns_and_rows_without_sides(self):
        self.assertEqual(((), ()), call(self, no_tone, (0, ()), (1, 2)))
        self.assertIsNone(call(self, tone_orders, (0, ()), (1, 2)))
        empty = (3, (((), None), ((), (0, 0)), ((), None)))
        self.assertEqual((0, 1, 2), call(self, no_tone, empty, (-5, 4))[0])
        self.assertIsNone(call(self, tone_orders, empty, (-5, 4)))

    def test_one_unknown(self):
        for side, tones in [((0, 0, 0), [0]), ((0, -1, 2), [-1, 0, 1, 2]), ((0, 1, None), [1, 2, 3, 4, 5])]:
            for s in range(-3, 6):
                orders = call(self, tone_orders, (1, (((side,), (3, 3)),)), (s, 1))
                self.assertIs(s in tones, orders is not None, (side, s))
        self.assertIsNotNone(tone_orders((1, ((((0, 0, 1),), None),)), (1, 2)))
        self.assertIsNone(tone_orders((1, ((((0, 0, 0),), None),)), (1, 2)))

    def test_halves(self):
        for s, there in [((1, 2), True), ((1, 3), False), ((0, 1), False), ((1, 1), False), ((2, 3), False)]:
            self.assertIs(there, call(self, tone_orders, HALF, s) is not None, s)

    def test_drawn_tables(self):
        draw = drawing(161)
        found = {True: 0, False: 0}
        for _ in range(300):
            table, s = drawn_square(draw, draw.randint(1, 5)), drawn_s(draw)
            at = call(self, table_at, table, s)
            self.assertTrue(is_table(at))
            own = call(self, no_tone, table, s)
            orders = call(self, tone_orders, table, s)
            self.assertEqual((own_rows(at), loud_orders(at)), (own, orders))
            self.assertIs(orders is None, own is not None)
            self.assertEqual((own, orders), (no_tone(without_rights(table), s), tone_orders(without_rights(table), s)))
            if own is not None:
                self.assertIs(True, is_own(at, own))
            else:
                self.assertTrue(are_orders(at, orders) and oracle.stands(at, orders))
                self.assertNotEqual((None,) * table[0], orders)
            found[own is None] += 1
        self.assertTrue(min(found.values()) > 60, found)

    def test_orders_of_tones_are_shown_by_tellings(self):
        # A row can be divided by what stands in it for c, so a determinant that is 0 shows an own tone.
        draw = drawing(162)
        shown = 0
        for _ in range(120):
            table, s = drawn_square(draw, draw.randint(1, 4)), drawn_s(draw)
            orders = tone_orders(table, s)
            if orders is not None:
                at = table_at(table, s)
                telling, answer = telling_for(at, orders)
                self.assertTrue(oracle.is_answer(at, telling, answer))
                self.assertEqual({}, oracle.determinant(at, telling))
                shown += 1
        self.assertGreater(shown, 30)
