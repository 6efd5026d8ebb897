import itertools
import unittest

import oracle
import reference
from leastpowers.forms import is_telling
from leastpowers.numbers import total, total_of, times
from leastpowers.tellings import is_answer, is_shown, orders_of, telling_for
from samples import (
    ANY, BIG, call, drawing, drawn_number, drawn_order, drawn_quotient, drawn_table, exchanged)

ONE = ((0, (1, 1)),)
TWO = ((0, (2, 1)),)
E = ((1, (1, 1)),)
TABLE = (2, ((((0, 1, 1), (1, 0, 2)), (0, 0)), (((0, 0, None), (1, 2, 2)), None)))
TELLING = (((((1, (1, 1)),), ONE), TWO), ((((3, (-1, 1)),), ((2, (1, 1)),)), ()))
ANSWER = ((((-1, (1, 1)),), ONE), (ONE, ONE))


def are_quotients(many, thing):
    return isinstance(thing, tuple) and len(thing) == many and all([
        reference.told(reference.quotient, one) for one in thing])


def slow_is_answer(table, telling, thing):
    return are_quotients(table[0], thing) and oracle.is_answer(table, telling, thing)


def slow_orders(answer):
    return tuple([num[0][0] - den[0][0] if num else None for num, den in answer])


def slow_is_shown(table, orders, thing):
    if not isinstance(thing, tuple) or len(thing) != 2 or not reference.told(reference.telling, table, thing[0]):
        return False
    return slow_is_answer(table, *thing) and slow_orders(thing[1]) == orders


def made_right(draw, many, unknowns):
    """A table and a telling of it, of which these numbers are an answer."""
    rows, told = [], []
    for sides, _ in drawn_table(draw, many, 3, 4)[1]:
        numbers = [drawn_number(draw, 2) for _ in sides]
        right = total([times(number, unknowns[side[0]]) for side, number in zip(sides, numbers)])
        rows.append((tuple([(side[0], -30, None) for side in sides]), (-30, None) if right else None))
        told.append((tuple(numbers), right))
    return ((many, tuple(rows)), tuple(told))


class AnswersTest(unittest.TestCase):
    def test_the_example(self):
        self.assertIs(True, call(self, is_answer, TABLE, TELLING, ANSWER))
        self.assertIs(False, call(self, is_answer, TABLE, TELLING, ((ONE, ONE), (ONE, ONE))))
        self.assertEqual((-1, 0), call(self, orders_of, ANSWER))

    def test_quotients_that_are_equal(self):
        more = ((0, (3, 1)), (2, (-1, 2)))
        for one, other in itertools.product([ONE, TWO, E, more], repeat=2):
            thing = ((times(one, ANSWER[0][0]), one), (other, other))
            self.assertIs(True, call(self, is_answer, TABLE, TELLING, thing))
            self.assertEqual((-1, 0), call(self, orders_of, thing))
            self.assertIs(other == TWO, call(self, is_answer, TABLE, TELLING, (thing[0], (other, TWO))))
        self.assertIs(False, call(self, is_answer, TABLE, TELLING, (ANSWER[0], (more, ONE))))

    def test_unlike_dens_that_make_up_for_one_another(self):
        # 1 / (1 + e) + e / (1 + e) = 1, and the same with dens that are not alike.
        table = (2, ((((0, 0, 0), (1, 0, 0)), (0, 0)),))
        telling = (((ONE, ONE), ONE),)
        den = ((0, (1, 1)), (1, (1, 1)))
        twice = times(den, ((0, (2, 1)), (3, (1, 7))))
        for thing, expected in [
                (((ONE, den), (E, den)), True), (((ONE, den), (times(twice, E), times(twice, den))), True),
                (((times(twice, ONE), times(twice, den)), (E, den)), True), (((ONE, den), (E, twice)), False),
                (((ONE, den), (ONE, den)), False), ((((), den), (den, den)), True), ((((), den), ((), ONE)), False)]:
            self.assertIs(expected, call(self, is_answer, table, telling, thing), thing)

    def test_several_sides_of_one_unknown_and_no_sides(self):
        table = (1, ((((0, 0, None), (0, 0, 0)), None), ((), (0, None)), ((), None)))
        quotient = (TWO, ((0, (1, 1)), (5, (1, 3))))
        for numbers, right, expected in [
                ((((0, (-2, 1)),), TWO), (), True), ((((0, (-2, 1)),), ONE), (), False), (((), TWO), (), False),
                ((((0, (-2, 1)),), TWO), ONE, False)]:
            telling = ((numbers, ()), ((), right), ((), ()))
            self.assertIs(expected, call(self, is_answer, table, telling, (quotient,)))
        self.assertIs(True, call(self, is_answer, table, ((((), TWO), ()), ((), ()), ((), ())), (((), ONE),)))

    def test_tables_without_unknowns_and_without_rows(self):
        self.assertIs(True, call(self, is_answer, (0, ()), (), ()))
        self.assertIs(True, call(self, is_answer, (0, (((), None), ((), (0, None)))), (((), ()), ((), ())), ()))
        self.assertIs(False, call(self, is_answer, (0, (((), (0, 0)),)), (((), ONE),), ()))
        self.assertIs(True, call(self, is_answer, (2, ()), (), (((), E), (E, TWO))))
        self.assertEqual((), call(self, orders_of, ()))

    def test_drawn_answers(self):
        draw = drawing(75)
        wrong = 0
        for _ in range(500):
            unknowns = [drawn_number(draw, 2) for _ in range(draw.randint(1, 4))]
            table, telling = made_right(draw, len(unknowns), unknowns)
            self.assertTrue(is_telling(table, telling))
            dens = [drawn_quotient(draw)[1] for _ in unknowns]
            answer = tuple([(times(number, den), den) for number, den in zip(unknowns, dens)])
            self.assertTrue(oracle.is_answer(table, telling, answer))
            self.assertIs(True, call(self, is_answer, table, telling, answer))
            self.assertEqual(slow_orders(answer), call(self, orders_of, answer))
            at = draw.randrange(len(answer))
            other = answer[:at] + (drawn_quotient(draw),) + answer[at + 1:]
            expected = oracle.is_answer(table, telling, other)
            self.assertIs(expected, call(self, is_answer, table, telling, other))
            wrong += not expected
        self.assertTrue(100 < wrong < 450, wrong)

    def test_sums_of_unlike_quotients(self):
        draw = drawing(78)
        for _ in range(200):
            # Two unknowns, whose quotients are no numbers, and a third one that makes up for them.
            first, second = drawn_quotient(draw), drawn_quotient(draw)
            num, den = total_of([first, second])
            table = (3, ((((0, 0, 0), (1, 0, 0), (2, 0, 0)), None),))
            telling = (((ONE, ONE, ((0, (-1, 1)),)), ()),)
            self.assertIs(True, call(self, is_answer, table, telling, (first, second, (num, den))))
            wrong = (first, second, (total([num, den]), den))
            self.assertIs(False, call(self, is_answer, table, telling, wrong))

    def test_any_value_as_an_answer(self):
        values = ANY + list(exchanged(ANSWER)) + list(exchanged((ANSWER[0], (TWO, TWO))))
        for thing in values:
            expected = slow_is_answer(TABLE, TELLING, thing)
            self.assertIs(expected, call(self, is_answer, TABLE, TELLING, thing), repr(thing))
            expected = isinstance(thing, tuple) and thing == ()
            self.assertIs(expected, call(self, is_answer, (0, ()), (), thing), repr(thing))
            self.assertIs(are_quotients(1, thing), call(self, is_answer, (1, ()), (), thing), repr(thing))

    def test_orders_of_many_digits(self):
        self.assertEqual((2 * BIG, None, -BIG), call(self, orders_of, (
            (((BIG, (1, 1)),), ((-BIG, (1, 1)), (0, (1, 1)))), ((), ONE), (ONE, ((BIG, (5, 3)),)))))


class TellingForTest(unittest.TestCase):
    def check(self, table, orders, expected):
        """Whether orders stand, with a telling and an answer as the document wants them."""
        self.assertIs(expected, oracle.stands(table, orders), (table, orders))
        told = call(self, telling_for, table, orders)
        self.assertIs(expected, told is not None, (table, orders))
        if not expected:
            return
        self.assertEqual(2, len(told))
        telling, answer = told
        self.assertTrue(reference.told(reference.telling, table, telling), (table, orders, telling))
        self.assertEqual(tuple([(() if order is None else ((order, (1, 1)),), ONE) for order in orders]), answer)
        self.assertTrue(oracle.is_answer(table, telling, answer), (table, orders, telling))
        self.assertIs(True, call(self, is_shown, table, orders, told))

    def test_orders_that_stand_and_orders_that_do_not(self):
        for orders, expected in [
                ((-1, 0), True), ((0, -3), False), ((None, 0), False), ((None, None), False), ((-1, None), True),
                ((0, 0), True), ((0, -2), True), ((0, 1), False), ((-2, -1), True), ((-2, 0), False),
                ((-2, -2), True), ((2, 0), True), ((3, 0), False)]:
            self.check(TABLE, orders, expected)

    def test_tables_with_little_in_them(self):
        for table, orders, expected in [
                ((0, ()), (), True), ((2, ()), (None, 5), True), ((0, (((), None),)), (), True),
                ((0, (((), (0, None)),)), (), True), ((0, (((), (0, 7)),)), (), False),
                ((1, (((), None),)), (4,), True),
                ((1, (((), (3, 3)),)), (None,), False)]:
            self.check(table, orders, expected)

    def test_rows_of_one_side(self):
        for bounds, right, order, expected in [
                ((1, 2), (3, 5), 1, True), ((1, 2), (3, 5), 0, False), ((1, 2), (3, 5), 4, True),
                ((1, 2), (3, 5), 5, False), ((1, 2), (3, 5), None, False), ((1, 2), (3, None), 99, True),
                ((1, 2), (3, None), None, True), ((1, 2), (3, None), 0, False), ((1, None), (3, 5), -90, True),
                ((1, None), (3, 5), 5, False), ((1, None), (3, 5), 4, True), ((1, None), None, 7, True),
                ((1, 2), None, 7, False), ((1, 2), None, None, True), ((1, None), (3, None), 7, True)]:
            self.check((1, ((((0, *bounds),), right),)), (order,), expected)

    def test_sides_of_one_unknown_that_must_cancel_one_another(self):
        for bounds, expected in [
                ([(1, 1), (1, 1)], True), ([(1, 1), (2, 2)], False), ([(1, 1), (1, 1), (1, 1)], True),
                ([(1, 2), (2, 2)], True), ([(1, 2), (2, 3), (3, 3)], True), ([(1, 1), (2, 2), (2, 2)], False),
                ([(1, 1), (0, None)], True), ([(1, 1), (2, None)], False), ([(0, None), (5, None)], True),
                ([(3, 3), (3, None), (3, 3), (-4, 3)], True)]:
            for order in [-5, 0, 7]:
                self.check((1, ((tuple([(0, *pair) for pair in bounds]), None),)), (order,), expected)
            self.check((1, ((tuple([(0, *pair) for pair in bounds]), None),)), (None,), True)

    def test_sides_of_one_unknown_that_come_to_a_right_side(self):
        for right, expected in [((0, 0), False), ((1, 1), True), ((5, 5), True), ((0, 5), True), ((0, None), True)]:
            self.check((1, ((((0, 1, 1), (0, 1, 1)), right),)), (0,), expected)
            self.check((1, ((((0, 1, 1), (0, 1, 1), (0, 4, 6)), right),)), (0,), expected)
        for right, expected in [((0, 0), False), ((1, 1), True), ((2, 2), False), ((2, 5), False), ((0, None), True)]:
            self.check((1, ((((0, 1, 1), (0, 2, 2)), right),)), (0,), expected)

    def test_all_orders_of_small_tables(self):
        draw = drawing(76)
        found = {True: 0, False: 0}
        for _ in range(60):
            table = drawn_table(draw, draw.randint(0, 2), 3, 4)
            for orders in itertools.product([None, -6, -1, 0, 1, 2, 6], repeat=table[0]):
                expected = oracle.stands(table, orders)
                self.check(table, orders, expected)
                found[expected] += 1
        self.assertTrue(min(found.values()) > 100, found)

    def test_drawn_orders_of_wide_tables(self):
        draw = drawing(77)
        found = {True: 0, False: 0}
        for _ in range(1500):
            table = drawn_table(draw, 6, 2, 8)
            orders = tuple([drawn_order(draw, 12) for _ in range(6)])
            expected = oracle.stands(table, orders)
            self.check(table, orders, expected)
            found[expected] += 1
        self.assertTrue(min(found.values()) > 200, found)

    def test_orders_of_many_digits(self):
        self.check((2, ((((0, 0, 0), (1, BIG, BIG)), None),)), (BIG, 0), True)
        self.check((2, ((((0, 0, 0), (1, BIG, BIG)), None),)), (BIG, 1), False)
        self.check((1, ((((0, 0, None),), (5, None)),)), (-BIG,), True)

    def test_what_shows_orders(self):
        self.assertIs(True, call(self, is_shown, TABLE, (-1, 0), (TELLING, ANSWER)))
        times_e = tuple([(times(num, E), times(den, E)) for num, den in ANSWER])
        self.assertIs(True, call(self, is_shown, TABLE, (-1, 0), (TELLING, times_e)))
        for orders in [(0, 0), (-1, 1), (-1, None), (None, 0), (0, -1)]:
            self.assertIs(False, call(self, is_shown, TABLE, orders, (TELLING, ANSWER)), orders)
        # These numbers and quotients are right, but one is not within its bounds.
        telling = (((((1, (1, 1)),), ONE), TWO), ((((2, (-1, 1)),), E), ()))
        self.assertIs(True, call(self, is_answer, TABLE, telling, ANSWER))
        self.assertIs(False, call(self, is_shown, TABLE, (-1, 0), (telling, ANSWER)))

    def test_any_value_as_what_shows_orders(self):
        values = ANY + list(exchanged((TELLING, ANSWER))) + list(exchanged(telling_for(TABLE, (-1, 0))))
        for thing in values:
            expected = slow_is_shown(TABLE, (-1, 0), thing)
            self.assertIs(expected, call(self, is_shown, TABLE, (-1, 0), thing), repr(thing))
            self.assertIs(slow_is_shown((0, ()), (), thing), call(self, is_shown, (0, ()), (), thing), repr(thing))
