import itertools
import unittest

import oracle
from leastpowers.forms import are_orders
from leastpowers.leastorders import some_orders
from leastpowers.sametables import needless_rows, parting_orders, spare_table, stand_alike
from leastpowers.standing import stands
from leastpowers.tables import low_high, moved_rows, ordered_rows, renumbered, with_bounds, with_row, without_row
from samples import BIG, call, drawing, drawn_table

ROW = (((0, 0, 0), (1, 0, 0)), None)
ONE = (2, (ROW,))
OTHER = (2, ((((0, 1, 1), (1, 1, 1)), None),))
WIDE = (2, ((((0, 0, 1), (1, 0, 0)), None),))
NEVER = (2, (((), (0, 0)),))


def small_table(draw, many, most_rows=2, size=1):
    """A table with so small powers that all orders that matter can be tried."""
    rows = []
    for _ in range(draw.randint(0, most_rows)):
        sides = []
        for _ in range(draw.randint(0, 3) if many else 0):
            least = draw.randint(-size, size)
            sides.append((draw.randrange(many), least, draw.choice([None, least, least, least + 1])))
        least = draw.randint(-size, size)
        rows.append((tuple(sides), draw.choice([None, None, (least, None), (least, least)])))
    return (many, tuple(rows))


def all_orders(many, size):
    return itertools.product([None, *range(-size, size + 1)], repeat=many)


def slow_place(one, other, size=7):
    """The place of the table of two in which alone some orders stand, 0 if both; None if the same stand in both."""
    apart = {(oracle.stands(one, orders), oracle.stands(other, orders)) for orders in all_orders(one[0], size)}
    return 0 if (True, False) in apart else 1 if (False, True) in apart else None


class SameTablesTest(unittest.TestCase):
    def check(self, one, other, place):
        found = call(self, parting_orders, one, other)
        self.assertIs(place is None, call(self, stand_alike, one, other), (one, other))
        if place is None:
            self.assertIsNone(found, (one, other))
        else:
            self.assertEqual(place, found[0], (one, other))
            self.assertTrue(isinstance(found, tuple) and len(found) == 2 and are_orders(one, found[1]))
            self.assertIs(place == 0, oracle.stands(one, found[1]))
            self.assertIs(place == 1, oracle.stands(other, found[1]))
            self.assertEqual((place == 0, place == 1), (stands(one, found[1]), stands(other, found[1])))

    def test_the_example(self):
        self.check(ONE, OTHER, None)
        self.check(ONE, WIDE, 1)
        self.check(WIDE, ONE, 0)
        self.assertEqual([0, 1], call(self, needless_rows, (2, (ROW, ROW))))
        self.assertEqual(ONE, call(self, spare_table, (2, (ROW, ROW))))
        self.assertEqual([0], call(self, needless_rows, (0, (((), None),))))

    def test_rows_twice_moved_and_in_another_order(self):
        draw = drawing(191)
        for _ in range(60):
            many = draw.randint(1, 5)
            table = drawn_table(draw, many)
            self.check(table, table, None)
            rows = range(len(table[1]))
            for row in table[1]:
                self.check(table, with_row(table, row), None)
            self.check(table, ordered_rows(table, tuple(draw.sample(rows, len(rows)))), None)
            if all([right is None for _, right in table[1]]):
                self.check(table, moved_rows(table, tuple([draw.randint(-9, 9) for _ in rows])), None)
            moved = moved_rows(table, tuple([draw.randint(-9, 9) for _ in rows]))
            self.check(table, moved, None)

    def test_one_bound_otherwise(self):
        # Wider bounds let more orders stand, or the same; narrower ones fewer.
        table = (2, ((((0, 0, 2), (1, 1, 1)), (0, None)),))
        for place, least, greatest, expected in [
                (0, 0, 3, 1), (0, 0, 1, 0), (0, -1, 2, 1), (0, 1, 2, 0), (0, 0, None, 1), (1, 1, 2, 1), (1, 0, 1, 1),
                (1, 1, None, 1), (2, 1, None, 0), (2, -1, None, 1), (2, 0, 5, 0), (2, 0, None, None)]:
            other = with_bounds(table, 0, place, least, greatest)
            self.check(table, other, expected)
            self.check(other, table, None if expected is None else 1 - expected)
            self.assertEqual(expected, slow_place(table, other))

    def test_place_0_where_both_would_do(self):
        table = (1, ((((0, 0, 0),), (0, 0)),))
        other = (1, ((((0, 0, 0),), (1, 1)),))
        self.check(table, other, 0)
        self.check(other, table, 0)
        self.assertEqual((0, (0,)), call(self, parting_orders, table, other))
        self.assertEqual((0, (1,)), call(self, parting_orders, other, table))

    def test_tables_in_which_no_orders_stand(self):
        loud = (2, ())
        self.check(NEVER, loud, 1)
        self.check(loud, NEVER, 0)
        self.check(NEVER, ONE, 1)
        self.check(WIDE, NEVER, 0)
        self.check(NEVER, NEVER, None)
        self.check(NEVER, (2, (ROW, ((), (5, 7)))), None)
        # Each row has its orders, but both have none together.
        never = (1, ((((0, 0, 0),), (0, 0)), (((0, 0, 0),), (1, 1))))
        self.assertIsNone(some_orders(never))
        self.check(never, (1, (((), (0, 0)),)), None)
        self.check(never, (1, ((((0, 0, 0),), None),)), 1)

    def test_rows_with_right_sides_and_without(self):
        one, other = (1, ((((0, 0, 0),), (3, None)),)), (1, ((((0, 0, None),), (3, 3)),))
        free = (1, ((((0, 0, None),), (3, None)),))
        for tables in itertools.permutations([one, other, free, (1, ()), (1, ((((0, 0, 0),), None),))], 2):
            self.check(*tables, slow_place(*tables))
        self.check(free, (1, ()), None)

    def test_tables_without_unknowns_and_without_rows(self):
        for one, other, place in [
                ((0, ()), (0, ()), None), ((0, ()), (0, (((), None),)), None), ((0, ()), (0, (((), (2, None)),)), None),
                ((0, ()), (0, (((), (2, 3)),)), 0), ((0, (((), (2, 3)),)), (0, ()), 1), ((3, ()), (3, ()), None),
                ((3, ()), (3, (((), None),)), None), ((1, ()), (1, ((((0, 5, None),), None),)), None)]:
            self.check(one, other, place)
        self.assertEqual((0, ()), call(self, parting_orders, (0, ()), (0, (((), (2, 3)),))))
        self.assertEqual([], call(self, needless_rows, (0, ())))
        self.assertEqual((0, ()), call(self, spare_table, (0, ())))
        self.assertEqual((3, ()), call(self, spare_table, (3, (((), None), ((), (0, None))))))
        self.assertEqual([0, 1], call(self, needless_rows, (3, (((), None), ((), (0, None))))))
        self.assertEqual((3, (((), (0, 0)),)), call(self, spare_table, (3, (((), (0, 0)), ROW, ((), (1, 1))))))

    def test_small_tables_by_all_their_orders(self):
        draw = drawing(192)
        found = {None: 0, 0: 0, 1: 0}
        for _ in range(150):
            many = draw.randint(1, 2)
            one = small_table(draw, many)
            other = small_table(draw, many)
            if draw.random() < 0.5:
                other = with_row(one, other[1][0]) if other[1] else one
                one, other = draw.sample([one, other], 2)
            place = slow_place(one, other)
            self.check(one, other, place)
            found[place] += 1
        self.assertTrue(min(found.values()) > 15, found)

    def test_larger_tables(self):
        draw = drawing(193)
        found = {None: 0, 0: 0, 1: 0}
        for _ in range(120):
            one = drawn_table(draw, draw.randint(2, 6), 5)
            other = one
            if one[1]:
                row = draw.randrange(len(one[1]))
                other = draw.choice([without_row(one, row), with_row(one, one[1][row])])
            one, other = draw.sample([one, other], 2)
            place = None if stand_alike(one, other) else parting_orders(one, other)[0]
            self.check(one, other, place)
            order = tuple(draw.sample(range(one[0]), one[0]))
            self.check(renumbered(one, order), renumbered(other, order), place)
            found[place] += 1
        self.assertTrue(min(found.values()) > 10, found)

    def test_what_is_left_of_drawn_tables(self):
        draw = drawing(194)
        shorter = 0
        for _ in range(60):
            many = draw.randint(1, 2)
            table = small_table(draw, many, 3)
            needless = [row for row in range(len(table[1])) if slow_place(table, without_row(table, row)) is None]
            self.assertEqual(needless, call(self, needless_rows, table))
            left = list(range(len(table[1])))
            for row in reversed(range(len(table[1]))):
                rest = [other for other in left if other != row]
                if slow_place(ordered_rows(table, tuple(left)), ordered_rows(table, tuple(rest))) is None:
                    left = rest
            self.assertEqual(ordered_rows(table, tuple(left)), call(self, spare_table, table))
            shorter += 0 < len(left) < len(table[1])
        self.assertGreater(shorter, 8)

    def test_rows_are_gone_through_from_the_last_one_on(self):
        # Two rows that say the same, but are not written so.
        first, last = ROW, (((1, 7, 7), (0, 7, 7)), None)
        self.assertEqual((2, (first,)), call(self, spare_table, (2, (first, last))))
        self.assertEqual((2, (last,)), call(self, spare_table, (2, (last, first))))
        self.assertEqual((2, (last,)), call(self, spare_table, (2, (last, first, last))))
        self.assertEqual([0, 1, 2], call(self, needless_rows, (2, (last, first, last))))

    def test_powers_of_many_digits(self):
        one = (2, ((((0, BIG, BIG), (1, 0, 0)), None),))
        self.check(one, moved_rows(one, (-2 * BIG,)), None)
        self.check(one, with_bounds(one, 0, 0, BIG, BIG + 1), 1)
        self.assertEqual((2 * BIG, 2 * BIG), low_high(moved_rows(one, (BIG,)), 0, 0))
