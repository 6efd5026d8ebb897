import itertools
import unittest

import oracle
from leastpowers.ownrows import is_own, own_rows, own_weights
from leastpowers.silence import barred_unknowns, is_silent
from leastpowers.tables import moved_rows, ordered_rows, without_rights
from samples import ANY, BIG, call, drawing, drawn_telling, exchanged
from test_silence import OTHER, ROW, TABLE, square_table


def slow_is_own(table, thing):
    """Whether a value of any kind is own rows: first that all of it is of the right kind, then by the definition."""
    if not isinstance(thing, tuple) or len(thing) != 2:
        return False
    for part in thing:
        if not isinstance(part, tuple) or [item.__class__ for item in part] != [int] * table[0]:
            return False
    if any([row not in range(len(table[1])) for row in thing[0]]):
        return False
    return oracle.are_own_rows(table, *thing)


def slow_has_weights(table, rows):
    """Whether rows have waits of all unknowns, no ring of which has delays of a sum that is not above 0."""
    placed = oracle.placed_waits(oracle.silent(table))
    places = [(row, wait[0]) for row, wait in placed]
    if any([(row, unknown) not in places for unknown, row in enumerate(rows)]):
        return False
    chosen = {unknown: places.index((row, unknown)) for unknown, row in enumerate(rows)}
    return not oracle.has_low_ring((table[0], [wait for _, wait in placed]), chosen)


class OwnRowsTest(unittest.TestCase):
    def check_weights(self, table, rows, there):
        weights = call(self, own_weights, table, rows)
        self.assertIs(there, weights is not None, (table, rows))
        if there:
            self.assertTrue(slow_is_own(table, (rows, weights)), (table, rows, weights))
            self.assertEqual(len(rows), len(set(rows)))
            self.assertIs(True, call(self, is_own, table, (rows, weights)))

    def check_rows(self, table, there):
        own = call(self, own_rows, table)
        self.assertIs(there, own is not None, table)
        if there:
            self.assertTrue(slow_is_own(table, own), (table, own))
            self.assertEqual(table[0], len(set(own[0])))
            self.assertIs(True, call(self, is_own, table, own))
            self.check_weights(table, own[0], True)

    def test_the_example(self):
        own = call(self, own_rows, TABLE)
        self.assertEqual((0, 1), own[0])
        self.check_rows(TABLE, True)
        self.assertIsNone(call(self, own_weights, TABLE, (1, 0)))
        self.check_weights(TABLE, (0, 1), True)

    def test_tables_that_are_silent_and_others(self):
        for table, there in [
                ((2, (ROW, OTHER, ROW)), True), ((2, (OTHER, ROW)), True), ((2, (ROW,)), False),
                ((2, (ROW, ROW)), False),
                ((0, ()), True), ((0, (((), (0, 0)),)), True), ((1, ()), False), ((1, (((), None),)), False),
                ((1, ((((0, BIG, BIG),), None),)), True), ((1, ((((0, 1, None),), None),)), False),
                ((1, ((((0, 1, 1), (0, 1, 1)), None),)), False), ((1, ((((0, 1, 1), (0, 2, 2)), (-9, -9)),)), True)]:
            self.check_rows(table, there)
        self.assertEqual(((), ()), call(self, own_rows, (0, ())))
        self.assertEqual(((), ()), call(self, own_rows, (0, (((), (0, 0)), ((), None)))))
        self.assertEqual((1, 0), call(self, own_rows, (2, (OTHER, ROW)))[0])

    def test_drawn_tables(self):
        draw = drawing(101)
        found = {True: 0, False: 0}
        for _ in range(400):
            table = square_table(draw, draw.randint(1, 6))
            extra = square_table(draw, table[0])[1][:draw.randint(0, 2)] if table[0] < 6 else ()
            table = (table[0], table[1] + extra)
            silent = is_silent(table)
            self.check_rows(table, silent)
            self.assertIs(silent, len(barred_unknowns(table)) == table[0])
            self.assertEqual(own_rows(without_rights(table)), own_rows(table))
            found[silent] += 1
        self.assertTrue(min(found.values()) > 60, found)

    def test_weights_for_all_rows(self):
        draw = drawing(102)
        found = {True: 0, False: 0}
        for _ in range(150):
            table = square_table(draw, draw.randint(1, 3))
            there = []
            for rows in itertools.product(range(table[0]), repeat=table[0]):
                expected = slow_has_weights(table, rows)
                self.check_weights(table, rows, expected)
                there += [rows] if expected else []
                found[expected] += 1
            # A square table has its own rows in one way at most.
            own = own_rows(table)
            self.assertEqual([] if own is None else [own[0]], there)
        self.assertTrue(min(found.values()) > 40, found)

    def test_weights_of_some_of_more_rows(self):
        draw = drawing(103)
        several = 0
        for _ in range(80):
            table = (2, square_table(draw, 2)[1] + square_table(draw, 2)[1])
            rows = [rows for rows in itertools.product(range(4), repeat=2) if slow_has_weights(table, rows)]
            for tried in itertools.product(range(4), repeat=2):
                self.check_weights(table, tried, tried in rows)
            self.assertIs(rows != [], is_silent(table))
            several += len(rows) > 1
        self.assertGreater(several, 20)

    def test_rows_that_bar_not_all_and_rows_without_a_high(self):
        for table, rows in [
                (TABLE, (1, 0)), (TABLE, (0, 0)), (TABLE, (1, 1)), ((1, ((((0, 1, None),), None),)), (0,)),
                ((1, ((((0, 1, 1), (0, 1, 1)), None),)), (0,)), ((2, (ROW, (((0, 0, 0),), None))), (0, 1)),
                ((1, (((), None),)), (0,)), ((2, ((((0, 0, 0), (1, 0, 0)), None), ROW)), (0, 1))]:
            self.check_weights(table, rows, False)
            weights = tuple([0 for _ in rows])
            self.assertIs(False, call(self, is_own, table, (rows, weights)))
        self.check_weights((2, (ROW, (((0, 0, 0),), None))), (1, 0), True)
        self.assertEqual((), call(self, own_weights, (0, (((), None),)), ()))

    def test_own_rows_tell_the_order_and_the_leading_factor_of_the_determinant(self):
        draw = drawing(104)
        told = 0
        for _ in range(200):
            table = square_table(draw, draw.randint(1, 4))
            own = own_rows(table)
            if own is None:
                continue
            told += 1
            for telling in [drawn_telling(draw, table) for _ in range(3)]:
                power, size = 0, 1
                for unknown, row in enumerate(own[0]):
                    pairs = zip(table[1][row][0], telling[row][0])
                    number = {}
                    for side, one in pairs:
                        number = oracle.added(number, oracle.plain(one) if side[0] == unknown else {})
                    power, size = power + min(number), size * number[min(number)]
                determinant = oracle.determinant(table, telling)
                self.assertEqual(power, min(determinant))
                self.assertEqual(abs(size), abs(determinant[power]))
        self.assertGreater(told, 40)

    def test_rows_in_another_order(self):
        draw = drawing(105)
        for _ in range(100):
            table = square_table(draw, draw.randint(1, 5))
            order = tuple(draw.sample(range(table[0]), table[0]))
            own, other = own_rows(table), own_rows(ordered_rows(table, order))
            self.assertIs(own is None, other is None)
            if own is not None:
                self.assertEqual(own[0], tuple([order[row] for row in other[0]]))
                shifts = tuple([draw.randint(-9, 9) for _ in order])
                self.assertIs(True, call(self, is_own, moved_rows(table, shifts), own))

    def test_what_own_rows_are(self):
        # The unknown 0 is at most 0 in the row 0, the other one there 3; 1 is at most 0 in the row 1, the other one 0.
        for weights, expected in [
                ((1, 0), True), ((0, -1), True), ((0, 0), False), ((8, 0), True), ((9, 0), False),
                ((BIG, BIG - 8), True), ((0, 1), False), ((BIG, BIG - 9), False)]:
            self.assertIs(expected, call(self, is_own, TABLE, ((0, 1), weights)), weights)
            self.assertIs(False, call(self, is_own, TABLE, ((1, 0), weights)), weights)
            self.assertIs(False, call(self, is_own, TABLE, ((0, 0), weights)), weights)
        self.assertIs(False, call(self, is_own, TABLE, ((0, 1), [1, 0])))
        twice = (2, (ROW, OTHER, ROW))
        self.assertIs(True, call(self, is_own, twice, ((2, 1), (1, 0))))
        self.assertIs(True, call(self, is_own, (0, ()), ((), ())))

    def test_truths_are_no_rows_and_no_weights(self):
        for thing in [((False, 1), (1, 0)), ((0, True), (1, 0)), ((0, 1), (True, 0)), ((0, 1), (1, False)),
                ((0, -1), (1, 0)), ((-2, 1), (1, 0)), ((0, 2), (1, 0)), ((0, BIG), (1, 0)), ((0, None), (1, 0)),
                ((0, 1), (1, None)), ([0, 1], (1, 0)), [(0, 1), (1, 0)], ((0, 1), (1, 0), ()), ((0, 1),),
                ((0, 1, 1), (1, 0, 0)), ((0, 1), (1,)), ((0,), (1, 0)), ((0, 1), (1, 0, 0)), ((0, (1,)), (1, 0))]:
            self.assertIs(False, call(self, is_own, TABLE, thing), thing)

    def test_any_value_as_own_rows(self):
        alone = (1, ((((0, 0, 0),), None), (((0, 0, 0),), (3, 3))))
        for thing in ANY + list(exchanged(((0, 1), (1, 0)))) + list(exchanged(((1,), (1,)))):
            for table in [TABLE, (0, ()), (0, (((), None),)), alone, (1, ())]:
                self.assertIs(slow_is_own(table, thing), call(self, is_own, table, thing), (table, repr(thing)))
