import unittest

import oracle
from leastpowers import forms
from leastpowers.tables import moved_rows, ordered_rows, with_row
from leastpowers.tablewaits import system_of, wait_places
from samples import BIG, call, drawing, drawn_table

TABLE = (2, ((((0, 1, 1), (1, 0, 2)), (0, 0)), (((0, 0, None), (1, 2, 2)), None)))


class TableWaitsTest(unittest.TestCase):
    def check(self, table, places, waits):
        self.assertEqual((table[0] + 1, waits), call(self, system_of, table), table)
        self.assertEqual(places, call(self, wait_places, table), table)

    def test_the_system_of_a_table(self):
        waits = ((0, ((1, -1), (2, -1))), (1, ((0, -1), (2, -2))), (2, ((0, 1), (1, 0))), (1, ((0, -2),)))
        self.check(TABLE, [(0, 0), (0, 1), (0, 2), (1, 1)], waits)
        self.check((2, TABLE[1][::-1]), [(0, 1), (1, 0), (1, 1), (1, 2)], waits[3:] + waits[:3])

    def test_tables_with_little_in_them(self):
        for many in [0, 1, 6]:
            self.check((many, ()), [], ())
            self.check((many, (((), None),)), [], ())
            self.check((many, (((), (3, None)),)), [], ())
            self.check((many, (((), (3, 4)), ((), None), ((), (3, 3)))), [(0, many), (2, many)], ((many, ()),) * 2)
        self.check((2, ((((1, 0, 5),), None),)), [(0, 1)], ((1, ()),))
        self.check((2, ((((1, 0, None),), None),)), [], ())

    def test_right_sides(self):
        sides = ((1, 2, 3),)
        self.check((2, ((sides, (5, 7)),)), [(0, 1), (0, 2)], ((1, ((2, 2),)), (2, ((1, -5),))))
        self.check((2, ((sides, (5, None)),)), [(0, 1)], ((1, ((2, 2),)),))
        self.check((2, ((sides, None),)), [(0, 1)], ((1, ()),))
        self.check((2, ((((1, 2, None),), (5, 7)),)), [(0, 2)], ((2, ((1, -5),)),))

    def test_several_sides_of_one_unknown(self):
        for bounds, ends in [
                ([(1, 3), (4, 4)], (1, 3)), ([(1, 3), (3, 4)], (1, None)), ([(4, 4), (1, 3)], (1, 3)),
                ([(1, 3), (1, 3)], (1, None)), ([(5, None), (1, 4)], (1, 4)), ([(0, None), (1, 1)], (0, None)),
                ([(0, 5), (3, 4), (6, 6)], (0, None)), ([(0, 2), (3, 4), (6, 6)], (0, 2))]:
            table = (3, ((tuple([(2, *pair) for pair in bounds]) + ((0, -9, -9),), (7, 8)),))
            low, high = ends
            waits = [(0, (0, ((2, low + 9), (3, 16))))]
            if high is not None:
                waits.append((2, (2, ((0, -9 - high), (3, 7 - high)))))
            waits.append((3, (3, ((0, -17), (2, low - 8)))))
            self.check(table, [(0, event) for event, _ in waits], tuple([wait for _, wait in waits]))

    def test_bounds_of_many_digits(self):
        table = (1, ((((0, BIG, BIG + 5),), (-BIG, -BIG)),))
        self.check(table, [(0, 0), (0, 1)], ((0, ((1, -2 * BIG - 5),)), (1, ((0, 2 * BIG),))))

    def test_drawn_tables(self):
        draw = drawing(73)
        waits = 0
        for _ in range(500):
            table = drawn_table(draw, draw.randint(0, 6), 8, 8)
            expected = oracle.placed_waits(table)
            self.check(table, [(row, wait[0]) for row, wait in expected], tuple([wait for _, wait in expected]))
            self.assertTrue(forms.is_system(system_of(table)))
            waits += len(expected)
        self.assertGreater(waits, 2000)

    def test_moved_and_ordered_rows_have_the_same_waits(self):
        draw = drawing(74)
        for _ in range(100):
            table = drawn_table(draw, 4)
            rows = range(len(table[1]))
            self.assertEqual(system_of(table), system_of(moved_rows(table, tuple([draw.randint(-9, 9) for _ in rows]))))
            order = tuple(draw.sample(rows, len(rows)))
            self.assertEqual(sorted(system_of(table)[1]), sorted(system_of(ordered_rows(table, order))[1]))
            self.assertEqual(system_of(table)[1], system_of(with_row(table, ((), None)))[1])
