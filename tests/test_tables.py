import itertools
import unittest

from leastpowers import forms, tables
from samples import BIG, call, drawing, drawn_bounds, drawn_table

TABLE = (2, ((((0, 1, 3), (0, 4, 4), (1, 0, None)), (2, 2)), ((), None), (((1, -1, 2),), (0, None))))


def orders_within(low, high):
    """The orders, up to 9, within bounds, and 99 for that of 0."""
    return [*range(low, 10), 99] if high is None else [*range(low, high + 1)]


def orders_together(bounds):
    """The orders, up to 9, that sides with these bounds can have together, found by trying all of each."""
    found = set()
    for orders in itertools.product(*[orders_within(low, high) for low, high in bounds]):
        least = min(orders)
        found.add(least)
        if orders.count(least) > 1:
            # Numbers of one order can cancel, down to any order.
            found.update(range(least, 10), [99])
    return sorted(found)


class TablesTest(unittest.TestCase):
    def test_low_high_of_one_side(self):
        self.assertEqual((0, None), call(self, tables.low_high, TABLE, 0, 1))
        self.assertEqual((-1, 2), call(self, tables.low_high, TABLE, 2, 1))

    def test_low_high_of_several_sides(self):
        for bounds, expected in [
                ([(1, 3), (4, 4)], (1, 3)), ([(4, 4), (1, 3)], (1, 3)), ([(1, 3), (3, 4)], (1, None)),
                ([(1, 3), (1, 3)], (1, None)), ([(2, 2), (2, 2)], (2, None)), ([(0, 5), (3, 4), (6, 6)], (0, None)),
                ([(5, None), (1, 4)], (1, 4)),
                ([(4, None), (1, 4)], (1, None)), ([(0, None), (1, None)], (0, None)), ([(3, None)], (3, None)),
                ([(-5, -4), (-3, -3), (-3, None)], (-5, -4)), ([(0, 9), (1, 2)], (0, None)), ([(0, 0)], (0, 0))]:
            table = (3, (((), None), (tuple([(1, *pair) for pair in bounds]) + ((0, -9, -9),), (7, 8))))
            self.assertEqual(expected, call(self, tables.low_high, table, 1, 1), bounds)

    def test_low_high_of_the_right_side(self):
        self.assertEqual((2, 2), call(self, tables.low_high, TABLE, 0, 2))
        self.assertIsNone(call(self, tables.low_high, TABLE, 1, 2))
        self.assertEqual((0, None), call(self, tables.low_high, TABLE, 2, 2))
        self.assertEqual((1, 4), call(self, tables.low_high, (0, (((), (1, 4)),)), 0, 0))
        self.assertIsNone(call(self, tables.low_high, (0, (((), None),)), 0, 0))

    def test_low_high_of_what_is_not_there(self):
        self.assertIsNone(call(self, tables.low_high, TABLE, 2, 0))
        self.assertIsNone(call(self, tables.low_high, TABLE, 1, 0))
        self.assertIsNone(call(self, tables.low_high, TABLE, 1, 1))

    def test_low_high_tells_what_sides_come_to(self):
        draw = drawing(16)
        for _ in range(300):
            bounds = [drawn_bounds(draw, 3) for _ in range(draw.randint(1, 3))]
            table = (1, ((tuple([(0, *pair) for pair in bounds]), None),))
            low, high = call(self, tables.low_high, table, 0, 0)
            self.assertEqual(orders_together(bounds), orders_within(low, high), bounds)

    def test_without_rights(self):
        expected = (2, ((TABLE[1][0][0], None), ((), None), (TABLE[1][2][0], None)))
        self.assertEqual(expected, call(self, tables.without_rights, TABLE))
        self.assertEqual((0, ()), call(self, tables.without_rights, (0, ())))

    def test_with_and_without_a_row(self):
        row = (((1, 0, 0),), (5, None))
        self.assertEqual((2, TABLE[1] + (row,)), call(self, tables.with_row, TABLE, row))
        self.assertEqual((0, (((), None),)), call(self, tables.with_row, (0, ()), ((), None)))
        self.assertEqual(TABLE, tables.without_row(tables.with_row(TABLE, row), 3))
        self.assertEqual((2, (TABLE[1][0], TABLE[1][2])), call(self, tables.without_row, TABLE, 1))
        self.assertEqual((2, TABLE[1][1:]), call(self, tables.without_row, TABLE, 0))

    def test_with_bounds(self):
        expected = (2, ((((0, 1, 3), (0, 7, None), (1, 0, None)), (2, 2)),) + TABLE[1][1:])
        self.assertEqual(expected, call(self, tables.with_bounds, TABLE, 0, 1, 7, None))
        expected = (2, ((TABLE[1][0][0], (-4, 4)),) + TABLE[1][1:])
        self.assertEqual(expected, call(self, tables.with_bounds, TABLE, 0, 3, -4, 4))
        expected = (2, (TABLE[1][0], ((), (1, None)), TABLE[1][2]))
        self.assertEqual(expected, call(self, tables.with_bounds, TABLE, 1, 0, 1, None))
        expected = (2, TABLE[1][:2] + ((((1, 5, 6),), (0, None)),))
        self.assertEqual(expected, call(self, tables.with_bounds, TABLE, 2, 0, 5, 6))

    def test_renumbered(self):
        table = (3, ((((0, 1, 1), (1, 2, 2), (2, 3, 3), (0, 4, None)), (5, 5)), ((), None)))
        expected = (3, ((((1, 1, 1), (2, 2, 2), (0, 3, 3), (1, 4, None)), (5, 5)), ((), None)))
        self.assertEqual(expected, call(self, tables.renumbered, table, (2, 0, 1)))
        self.assertEqual(table, call(self, tables.renumbered, table, (0, 1, 2)))
        self.assertEqual((0, (((), None),)), call(self, tables.renumbered, (0, (((), None),)), ()))

    def test_the_unknown_i_is_that_of_the_order(self):
        draw = drawing(17)
        for _ in range(50):
            table = drawn_table(draw, 4)
            order = tuple(draw.sample(range(4), 4))
            made = call(self, tables.renumbered, table, order)
            self.assertTrue(forms.is_table(made))
            for row in range(len(table[1])):
                self.assertEqual([side[1:] for side in table[1][row][0]], [side[1:] for side in made[1][row][0]])
                for unknown in range(4):
                    self.assertEqual(tables.low_high(table, row, order[unknown]), tables.low_high(made, row, unknown))
                self.assertEqual(table[1][row][1], made[1][row][1])

    def test_ordered_rows(self):
        one, two, three = TABLE[1]
        self.assertEqual((2, (three, one, two)), call(self, tables.ordered_rows, TABLE, (2, 0, 1)))
        self.assertEqual((3, ()), call(self, tables.ordered_rows, (3, ()), ()))

    def test_moved_rows(self):
        last = (((1, BIG - 1, BIG + 2),), (BIG, None))
        expected = (2, ((((0, 0, 2), (0, 3, 3), (1, -1, None)), (1, 1)), ((), None), last))
        self.assertEqual(expected, call(self, tables.moved_rows, TABLE, (-1, 5, BIG)))
        self.assertEqual(TABLE, call(self, tables.moved_rows, TABLE, (0, 0, 0)))
        self.assertEqual((0, ()), call(self, tables.moved_rows, (0, ()), ()))
