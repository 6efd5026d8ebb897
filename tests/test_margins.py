import unittest

import oracle
from leastpowers.errors import NotSilent
from leastpowers.margins import greatest_margin, least_margin
from leastpowers.silence import is_silent, loud_orders
from leastpowers.tables import without_rights
from samples import BIG, call, drawing, failed
from test_silence import OTHER, ROW, TABLE, square_table

# No ring of waits of the drawn tables is as long as this.
FAR = 60


def moved(table, row, place, by, greatest):
    """The table with one bound of a side moved outward by so much."""
    many, rows = table
    sides, right = rows[row]
    unknown, low, high = sides[place]
    side = (unknown, low, high + by) if greatest else (unknown, low - by, high)
    changed = (sides[:place] + (side,) + sides[place + 1:], right)
    return (many, rows[:row] + (changed,) + rows[row + 1:])


def slow_steps(table, row, place, greatest):
    """By how much a bound can be moved, found step by step; None if by FAR and much more."""
    for by in range(FAR):
        if not is_silent(moved(table, row, place, by + 1, greatest)):
            return by
    return None


def places_of(table):
    return [(row, place) for row, (sides, _) in enumerate(table[1]) for place in range(len(sides))]


class MarginsTest(unittest.TestCase):
    def check(self, table, row, place):
        """Compares both margins of a side with what is silent; returns them."""
        _, low, high = table[1][row][0][place]
        steps = slow_steps(table, row, place, False)
        least = call(self, least_margin, table, row, place)
        self.assertEqual(None if steps is None else low - steps, least, (table, row, place))
        if high is None:
            return (least,)
        steps = slow_steps(table, row, place, True)
        greatest = call(self, greatest_margin, table, row, place)
        self.assertEqual(None if steps is None else high + steps, greatest, (table, row, place))
        return (least, greatest)

    def test_the_example(self):
        self.assertEqual([2, 2, None], [call(self, greatest_margin, TABLE, *at) for at in [(0, 0), (1, 1), (1, 0)]])
        self.assertEqual([1, -2, None], [call(self, least_margin, TABLE, *at) for at in [(0, 1), (1, 0), (1, 1)]])
        for at in places_of(TABLE):
            self.check(TABLE, *at)

    def test_just_at_the_margin_and_one_step_beyond(self):
        for by, silent in [(2, True), (3, False)]:
            self.assertIs(silent, is_silent(moved(TABLE, 0, 0, by, True)))
            self.assertIs(silent, oracle.loud_plans(moved(TABLE, 0, 0, by, True)) == [])
            self.assertIs(silent, is_silent(moved(TABLE, 0, 1, by, False)))
        self.assertEqual(2, greatest_margin(moved(TABLE, 0, 0, 2, True), 0, 0))
        self.assertEqual(1, least_margin(moved(TABLE, 0, 1, 2, False), 0, 1))

    def test_one_side_alone_has_no_margin(self):
        for side in [(0, 0, 0), (0, -3, 5), (0, BIG, BIG + 1)]:
            self.assertEqual((None, None), self.check((1, (((side,), (7, 7)),)), 0, 0))
        self.assertEqual((None, None), self.check((1, ((((0, 0, 0),), None), (((0, 9, 9),), None))), 1, 0))
        self.assertEqual((None,), self.check((1, ((((0, 0, 0),), None), (((0, 9, None),), None))), 1, 0))

    def test_sides_of_an_unknown_with_two_in_its_row(self):
        # Together they come to 0 as soon as the one with the greater least can be as low as the other one's greatest.
        table = (1, ((((0, 0, 2), (0, 5, 7)), None),))
        self.assertEqual((None, 4), self.check(table, 0, 0))
        self.assertEqual((3, None), self.check(table, 0, 1))
        table = (2, ((((0, 0, 2), (0, 5, 7), (1, 4, None)), None), (((1, 0, 0),), None)))
        self.assertEqual((None, 4), self.check(table, 0, 0))
        self.assertEqual((3, None), self.check(table, 0, 1))
        table = (2, ((((0, 0, 2), (0, 5, 7), (1, 4, 4)), None), (((1, 0, 0), (0, 1, 1)), None)))
        # The unknown 0 is later than 1 by 2 or more in the first row, earlier by 1 in the other one.
        self.assertEqual((2, 4), (self.check(table, 0, 2)[0], self.check(table, 0, 0)[1]))

    def test_right_sides_are_taken_for_none(self):
        plain = without_rights(TABLE)
        never = (2, tuple([(sides, (-90, -90)) for sides, _ in TABLE[1]]))
        for at in places_of(TABLE):
            for table in [plain, never]:
                self.assertEqual(greatest_margin(TABLE, *at), call(self, greatest_margin, table, *at))
                self.assertEqual(least_margin(TABLE, *at), call(self, least_margin, table, *at))

    def test_more_rows_than_unknowns(self):
        # In the first table the last two rows are enough; in the other one they let 0 be earlier than 1 by just 1.
        last = (((0, 0, 0), (1, -1, -1)), None)
        for table, expected in [((2, (ROW, OTHER, ROW)), None), ((2, (ROW, OTHER, last)), 3)]:
            self.assertEqual(expected, call(self, greatest_margin, table, 0, 0))
            self.check(table, 0, 0)
            self.check(table, 2, 1)

    def test_tables_that_are_not_silent(self):
        for table, row, place in [
                ((2, (ROW,)), 0, 1), ((2, (ROW, ROW)), 1, 0), ((1, ((((0, 0, None),), None),)), 0, 0),
                ((1, ((((0, 1, 1), (0, 1, 1)), None),)), 0, 1), (moved(TABLE, 0, 0, 3, True), 1, 1)]:
            for function in [greatest_margin, least_margin]:
                error = failed(self, NotSilent, function, table, row, place)
                self.assertEqual(loud_orders(table), error.orders)
                self.assertTrue(oracle.stands(oracle.silent(table), error.orders))
                self.assertNotEqual((None,) * table[0], error.orders)

    def test_drawn_tables(self):
        draw = drawing(121)
        found = {"least": 0, "greatest": 0, None: 0}
        for _ in range(120):
            table = square_table(draw, draw.randint(1, 5))
            if draw.random() < 0.3:
                table = (table[0], table[1] + square_table(draw, table[0])[1][:2])
            if not is_silent(table):
                continue
            for at in places_of(table)[:4]:
                margins = self.check(table, *at)
                for name, margin in zip(["least", "greatest"], margins):
                    found[name if margin is not None else None] += 1
        self.assertTrue(min(found.values()) > 15, found)

    def test_powers_of_many_digits(self):
        table = (2, ((((0, 0, 0), (1, BIG, BIG)), None), (((0, BIG, BIG), (1, 0, 0)), None)))
        self.assertEqual(2 * BIG - 1, call(self, greatest_margin, table, 0, 0))
        self.assertEqual(1 - BIG, call(self, least_margin, table, 0, 1))
        self.assertIsNone(call(self, greatest_margin, table, 0, 1))
        self.assertIsNone(call(self, least_margin, table, 0, 0))
