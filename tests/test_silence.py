import itertools
import unittest

import oracle
from leastpowers.errors import TooMany
from leastpowers.forms import are_orders
from leastpowers.silence import barred_unknowns, is_silent, loud_orders, silent_lots
from leastpowers.tables import moved_rows, renumbered, without_rights
from samples import BIG, call, drawing, drawn_bounds, drawn_table, drawn_telling, failed

ROW = (((0, 0, 0), (1, 3, 3)), None)
OTHER = (((0, 0, 2), (1, 0, 0)), (4, None))
TABLE = (2, (ROW, OTHER))


def square_table(draw, many, size=2, others=2):
    """A table with as many rows as unknowns, which is silent quite often: the unknown i is early in the row i."""
    rows = []
    for row in range(many):
        sides = [(row, -size, draw.choice([-size, 1 - size, None]))]
        for unknown in draw.sample(range(many), draw.randint(0, min(others, many))):
            sides.append((unknown, *drawn_bounds(draw, size)))
        rows.append((tuple(sides), draw.choice([None, drawn_bounds(draw, size)])))
    return (many, tuple(draw.sample(rows, many)))


def slow_lots(table):
    """The least lots of rows that make a table silent, of any number of rows, found by trying all."""
    rows = table[1]
    lots = [lot for size in range(len(rows) + 1) for lot in itertools.combinations(range(len(rows)), size)]
    lots = [set(lot) for lot in lots if not oracle.loud_plans((table[0], tuple([rows[index] for index in lot])))]
    return sorted([tuple(sorted(lot)) for lot in lots if not any([other < lot for other in lots])])


class SilenceTest(unittest.TestCase):
    def check(self, table, barred):
        """Which unknowns are always 0, and whether all are."""
        self.assertEqual(barred, call(self, barred_unknowns, table), table)
        silent = len(barred) == table[0]
        self.assertIs(silent, call(self, is_silent, table), table)
        orders = call(self, loud_orders, table)
        self.assertIs(silent, orders is None, table)
        if not silent:
            self.assertTrue(are_orders(table, orders))
            self.assertNotEqual((None,) * table[0], orders)
            self.assertTrue(oracle.stands(oracle.silent(table), orders), (table, orders))

    def test_silent_tables_and_others(self):
        for table, barred in [
                (TABLE, (0, 1)), ((2, (ROW,)), ()), ((2, (OTHER,)), ()), ((2, (ROW, ROW)), ()),
                ((2, (OTHER, ROW, OTHER)), (0, 1)), ((2, (ROW, (((1, 5, 5),), None))), (0, 1)),
                ((2, (ROW, (((0, 5, 5),), None))), (0, 1)), ((2, (ROW, (((0, 5, None),), None))), ()),
                ((2, (ROW, (((0, -2, 2), (1, 0, 0)), None))), (0, 1)),
                ((2, (ROW, (((0, -3, 2), (1, 0, 0)), None))), ()),
                ((2, ((((0, 0, 2), (1, 3, 3)), None), OTHER)), (0, 1)),
                ((2, ((((0, 0, 3), (1, 3, 3)), None), OTHER)), ()), ((3, ((((2, 0, 9),), None),)), (2,)),
                ((3, ((((2, 0, 9),), None), (((2, 1, 1), (0, 4, 4)), None))), (0, 2)),
                ((3, ((((0, 0, 0), (1, 1, 1)), None), (((1, 0, 0), (2, 1, 1)), None), (((2, 0, 0), (0, 1, 1)), None))),
                    (0, 1, 2)),
                ((3, ((((0, 0, 0), (1, 1, 1)), None), (((1, 0, 0), (2, 1, 1)), None),
                    (((2, 0, 0), (0, -2, -2)), None))), ()),
                ((1, ((((0, BIG, BIG + 7),), None),)), (0,)), ((1, ((((0, 1, 1), (0, 2, 2)), None),)), (0,)),
                ((1, ((((0, 1, 1), (0, 1, 1)), None),)), ()), ((1, ((((0, 1, 2), (0, 2, 2)), None),)), ())]:
            self.check(table, barred)

    def test_tables_without_unknowns_rows_and_sides(self):
        for rows in [(), (((), None),), (((), (0, 0)), ((), (3, None)))]:
            self.check((0, rows), ())
            self.check((1, rows), ())
            self.check((6, rows), ())

    def test_right_sides_are_taken_for_none(self):
        draw = drawing(91)
        found = {True: 0, False: 0}
        for _ in range(300):
            table = square_table(draw, draw.randint(1, 6))
            plain = without_rights(table)
            self.check(table, call(self, barred_unknowns, plain))
            for function in [is_silent, loud_orders, barred_unknowns, silent_lots]:
                self.assertEqual(call(self, function, plain), call(self, function, table))
            never = (table[0], tuple([(sides, (-90, -90)) for sides, _ in table[1]]))
            self.assertEqual(loud_orders(plain), call(self, loud_orders, never))
            found[is_silent(table)] += 1
        self.assertTrue(min(found.values()) > 30, found)

    def test_small_tables_by_all_their_orders(self):
        draw = drawing(92)
        found = {True: 0, False: 0}
        for _ in range(200):
            table = square_table(draw, draw.randint(1, 3), 1)
            if draw.random() < 0.3:
                table = drawn_table(draw, draw.randint(1, 3), 4, 3)
            plans = oracle.loud_plans(table) if table[0] < 3 or draw.random() < 0.3 else None
            if plans is not None:
                barred = [at for at in range(table[0]) if all([plan[at] is None for plan in plans])]
                self.check(table, tuple(barred))
                found[plans == []] += 1
        self.assertTrue(min(found.values()) > 30, found)

    def test_a_silent_square_table_has_no_determinant_of_0(self):
        draw = drawing(93)
        silent = 0
        for _ in range(300):
            table = square_table(draw, draw.randint(0, 4))
            if is_silent(table):
                silent += 1
                for _ in range(3):
                    self.assertNotEqual({}, oracle.determinant(table, drawn_telling(draw, table)), table)
        self.assertGreater(silent, 40)

    def test_tables_that_are_written_otherwise(self):
        draw = drawing(94)
        for _ in range(200):
            table = square_table(draw, draw.randint(1, 6))
            order = tuple(draw.sample(range(table[0]), table[0]))
            barred = sorted([order.index(unknown) for unknown in barred_unknowns(table)])
            self.check(renumbered(table, order), tuple(barred))
            shifts = tuple([draw.randint(-9, 9) for _ in table[1]])
            self.assertIs(is_silent(table), is_silent(moved_rows(table, shifts)))

    def test_lots(self):
        for table, lots in [
                ((2, (ROW, OTHER, ROW)), [(0, 1), (1, 2)]), ((2, (ROW,)), []), ((0, ()), [()]), ((2, (ROW, ROW)), []),
                ((0, (((), None),) * 8), [()]), ((0, (((), (0, 0)),)), [()]), ((2, ()), []), (TABLE, [(0, 1)]),
                ((1, ((((0, 0, 0),), None),) * 8), [(at,) for at in range(8)]),
                ((1, ((((0, 0, None),), None), (((0, 0, 0),), None), ((), None))), [(1,)]),
                ((3, (ROW, OTHER)), []), ((3, (ROW, OTHER, (((2, 0, 0), (0, -9, 9)), None))), [(0, 1, 2)])]:
            self.assertEqual(lots, call(self, silent_lots, table), table)

    def test_drawn_lots(self):
        draw = drawing(95)
        several = 0
        for _ in range(60):
            many = draw.randint(1, 2)
            rows = square_table(draw, many, 1)[1] + square_table(draw, many, 1)[1] + drawn_table(draw, many, 1, 3)[1]
            lots = call(self, silent_lots, (many, rows))
            self.assertEqual(slow_lots((many, rows)), lots, rows)
            several += len(lots) > 1
        self.assertGreater(several, 20)

    def test_lots_of_many_rows(self):
        draw = drawing(96)
        several = 0
        for _ in range(40):
            rows = square_table(draw, 4)[1] + square_table(draw, 4)[1]
            lots = call(self, silent_lots, (4, rows))
            tried = itertools.combinations(range(8), 4)
            self.assertEqual([lot for lot in tried if is_silent((4, tuple([rows[at] for at in lot])))], lots)
            self.assertIs(lots != [], is_silent((4, rows)))
            several += len(lots) > 1
        self.assertGreater(several, 10)

    def test_eight_rows_and_nine(self):
        for many, row in [(0, ((), None)), (1, (((0, 0, 0),), None)), (2, ROW)]:
            call(self, silent_lots, (many, (row,) * 8))
            self.assertEqual(8, failed(self, TooMany, silent_lots, (many, (row,) * 9)).most)
        self.assertIs(True, call(self, is_silent, (2, (ROW,) * 8 + (OTHER,))))
