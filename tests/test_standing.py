import itertools
import unittest

import oracle
from leastpowers.numbers import least_items
from leastpowers.standing import lonely_side, stands
from leastpowers.tables import moved_rows, ordered_rows, renumbered
from leastpowers.tellings import telling_for
from samples import BIG, call, drawing, drawn_order, drawn_table

TABLE = (2, ((((0, 1, 1), (1, 0, 2)), (0, 0)), (((0, 0, None), (1, 2, 2)), None)))


def slow_lonely(table, orders):
    """The least (row, event) whose wait is not kept, straight from the definition of the system of a table."""
    plan = orders + (0,)
    lonely = [(row, wait[0]) for row, wait in oracle.placed_waits(table) if not oracle.keeps((0, (wait,)), plan)]
    return min(lonely, default=None)


class StandingTest(unittest.TestCase):
    def check(self, table, orders, lonely):
        self.assertIs(lonely is None, call(self, stands, table, orders), (table, orders))
        self.assertEqual(lonely, call(self, lonely_side, table, orders), (table, orders))

    def test_orders_that_stand_and_orders_that_do_not(self):
        for orders, lonely in [
                ((-1, 0), None), ((0, -3), (0, 1)), ((None, 0), (1, 1)), ((None, None), (0, 2)), ((-1, None), None),
                ((-2, None), (0, 0)), ((0, None), (0, 2)), ((-5, -9), (0, 1)), ((0, 1), (0, 2)), ((-2, 0), (0, 0)),
                ((3, 0), (1, 1)), ((2, 0), None), ((None, -1), (1, 1)), ((None, 1), (0, 2))]:
            self.check(TABLE, orders, lonely)

    def test_the_least_row_and_the_least_event_in_it(self):
        table = (2, (((), None), (((1, 0, 0), (0, 0, 0)), (0, 0)), (((0, 0, 0),), None)))
        for orders, lonely in [
                ((None, None), (1, 2)), ((-1, 5), (1, 0)), ((5, -1), (1, 1)), ((0, 0), (2, 0)), ((None, 0), None),
                ((-1, -1), (2, 0)), ((1, 1), (1, 2))]:
            self.check(table, orders, lonely)

    def test_tables_with_little_in_them(self):
        for table, orders, lonely in [
                ((0, ()), (), None), ((0, (((), None),)), (), None), ((0, (((), (0, 0)),)), (), (0, 0)),
                ((0, (((), (0, None)), ((), (0, 7)))), (), (1, 0)), ((3, ()), (None, -7, BIG), None),
                ((1, (((), None), ((), (3, 3)))), (5,), (1, 1)), ((1, ((((0, 5, 6),), None),)), (5,), (0, 0)),
                ((1, ((((0, 5, 6),), None),)), (None,), None), ((1, ((((0, 5, None),), None),)), (5,), None)]:
            self.check(table, orders, lonely)

    def test_several_sides_of_one_unknown(self):
        for bounds, lonely in [
                ([(1, 1), (1, 1)], None), ([(1, 1), (2, 2)], (0, 0)), ([(1, 2), (2, 2)], None),
                ([(1, 1), (0, None)], None), ([(1, 1), (2, None)], (0, 0)), ([(1, 1), (2, 2), (2, 2)], (0, 0))]:
            table = (1, ((tuple([(0, *pair) for pair in bounds]), None),))
            self.check(table, (3,), lonely)
            self.check(table, (None,), None)

    def test_orders_just_within_and_just_beyond(self):
        table = (1, ((((0, 1, 2),), (3, 5)),))
        for order, lonely in [(0, (0, 0)), (1, None), (4, None), (5, (0, 1)), (None, (0, 1)), (-BIG, (0, 0)),
                (BIG, (0, 1))]:
            self.check(table, (order,), lonely)

    def test_all_orders_of_small_tables(self):
        draw = drawing(81)
        found = {True: 0, False: 0}
        for _ in range(150):
            table = drawn_table(draw, draw.randint(0, 2), 3, 4)
            for orders in itertools.product([None, -7, -2, -1, 0, 1, 3, 7], repeat=table[0]):
                self.check(table, orders, slow_lonely(table, orders))
                expected = oracle.stands(table, orders)
                self.assertIs(expected, stands(table, orders))
                found[expected] += 1
        self.assertTrue(min(found.values()) > 500, found)

    def test_drawn_orders_stand_just_if_a_telling_shows_them(self):
        draw = drawing(82)
        found = {True: 0, False: 0}
        for _ in range(1500):
            table = drawn_table(draw, 6, 2, 8)
            orders = tuple([drawn_order(draw, 12) for _ in range(6)])
            self.check(table, orders, slow_lonely(table, orders))
            expected = oracle.stands(table, orders)
            self.assertIs(expected, stands(table, orders))
            self.assertIs(expected, telling_for(table, orders) is not None)
            found[expected] += 1
        self.assertTrue(min(found.values()) > 200, found)

    def test_the_least_of_orders_that_stand_does(self):
        draw = drawing(83)
        both = 0
        for _ in range(150):
            table = drawn_table(draw, 3, 2, 4)
            found = [tuple([drawn_order(draw, 6) for _ in range(3)]) for _ in range(40)]
            found = [orders for orders in found if stands(table, orders)]
            for one, other in itertools.combinations(found, 2):
                self.assertIs(True, stands(table, least_items(one, other)))
                both += least_items(one, other) not in (one, other)
        self.assertGreater(both, 200)

    def test_tables_in_which_the_same_orders_stand(self):
        draw = drawing(84)
        for _ in range(300):
            table = drawn_table(draw, 4, 3)
            orders = tuple([drawn_order(draw) for _ in range(4)])
            rows = range(len(table[1]))
            expected = stands(table, orders)
            self.assertIs(expected, stands(moved_rows(table, tuple([draw.randint(-9, 9) for _ in rows])), orders))
            self.assertIs(expected, stands(ordered_rows(table, tuple(draw.sample(rows, len(rows)))), orders))
            order = tuple(draw.sample(range(4), 4))
            self.assertIs(expected, stands(renumbered(table, order), tuple([orders[unknown] for unknown in order])))
