import fractions
import itertools
import unittest

import oracle
from leastpowers.counted import polynomial_of, roots_above, tones_above
from leastpowers.determinants import determinant_of
from leastpowers.errors import CanBe
from leastpowers.forms import is_number
from leastpowers.silence import is_silent
from leastpowers.tables import low_high, without_rights
from leastpowers.tones import no_tone, tone_orders
from samples import BIG, call, drawing, drawn_number, drawn_telling, failed
from test_determinants import numbered, refuse
from test_tones import HALF, TONED, drawn_s, drawn_square

ONE = (1, 1)
TELLING = (((((2, ONE),), ((1, ONE),)), ()), ((((1, ONE),), ((5, ONE),)), ()))
POLYNOMIAL = [((2, (-1, 1)), (7, ONE)), ((2, (-1, 1)), (5, (-1, 1))), ((0, ONE),)]


def slow_polynomial(table, telling):
    """The factors of the powers of c as dicts, by all orders of rows and all lots of places (i, i) where c is taken."""
    many = table[0]
    cells = [[{} for _ in range(many)] for _ in range(many)]
    for row, ((sides, _), (numbers, _)) in enumerate(zip(table[1], telling)):
        for side, number in zip(sides, numbers):
            cells[row][side[0]] = oracle.added(cells[row][side[0]], oracle.plain(number))
    factors = [{} for _ in range(many + 1)]
    for order in itertools.permutations(range(many)):
        sign = (-1) ** sum([one > other for one, other in itertools.combinations(order, 2)])
        same = [row for row in range(many) if order[row] == row]
        for taken in itertools.product([False, True], repeat=len(same)):
            left = [row for row in range(many) if row not in same or not taken[same.index(row)]]
            part = {0: fractions.Fraction(sign * (-1) ** sum(taken))}
            for row in left:
                part = oracle.product(part, cells[row][order[row]])
            factors[sum(taken)] = oracle.added(factors[sum(taken)], part)
    return factors


def root_orders(polynomial):
    """The orders of all roots, by the corners below all points (index, order); None for a root that is 0."""
    points = [(at, number[0][0]) for at, number in enumerate(polynomial) if number]
    orders = [None] * points[0][0]
    at = points[0]
    while at != points[-1]:
        slopes = [(fractions.Fraction(point[1] - at[1], point[0] - at[0]), -point[0], point)
            for point in points if point[0] > at[0]]
        slope, _, point = min(slopes)
        orders += [-slope] * (point[0] - at[0])
        at = point
    return orders


def roots_over(orders, s):
    return len([order for order in orders if order is None or order > fractions.Fraction(*s)])


class CountedTest(unittest.TestCase):
    def test_the_example(self):
        self.assertEqual([0, 2], [call(self, tones_above, TONED, s) for s in [(3, 2), (1, 2)]])
        self.assertEqual(2, call(self, tones_above, HALF, (0, 1)))
        self.assertEqual(1, call(self, tones_above, (1, (((), None),)), (9, 1)))
        self.assertEqual(POLYNOMIAL, call(self, polynomial_of, TONED, TELLING))
        self.assertEqual([0, 2, 0], [call(self, roots_above, POLYNOMIAL, s) for s in [(3, 2), (1, 2), (1, 1)]])
        self.assertEqual(1, call(self, roots_above, [(), POLYNOMIAL[2]], (9, 1)))

    def test_tables_that_are_not_square(self):
        refuse(self, tones_above, 1, (1, 2))
        refuse(self, polynomial_of, 1, ())

    def test_tables_that_are_not_silent_at_s(self):
        for table, s in [(TONED, (1, 1)), (HALF, (1, 2)), ((1, ((((0, -1, 2),), None),)), (1, 3))]:
            error = failed(self, CanBe, tones_above, table, s)
            self.assertEqual(tone_orders(table, s), error.orders)
            self.assertNotIn(error.orders, [None, (None,) * table[0]])

    def test_no_unknowns_and_rows_without_a_side_of_their_own(self):
        self.assertEqual(0, call(self, tones_above, (0, ()), (1, 2)))
        self.assertEqual([((0, ONE),)], call(self, polynomial_of, (0, ()), ()))
        self.assertEqual(3, call(self, tones_above, (3, (((), None),) * 3), (-4, 1)))
        zero = [(), (), (), ((0, (-1, 1)),)]
        self.assertEqual(zero, call(self, polynomial_of, (3, (((), None),) * 3), (((), ()),) * 3))
        # The unknown 0 has no side in the row 0; it is an own tone that is 0 as long as s is below 4.
        table = (2, ((((1, 4, 4),), None), (((1, 4, 4),), (0, 0))))
        self.assertEqual([2, 1], [call(self, tones_above, table, s) for s in [(3, 1), (9, 2)]])
        telling = (((((4, ONE),),), ()), ((((4, (3, 1)),),), ((0, ONE),)))
        expected = [(), ((4, (-3, 1)),), ((0, ONE),)]
        self.assertEqual(expected, call(self, polynomial_of, table, telling))

    def test_s_just_at_the_low_of_a_row(self):
        table = (1, ((((0, 3, 5),), None),))
        for s, expected in [((2, 1), 1), ((29, 10), 1), ((51, 10), 0), ((6, 1), 0), ((-9, 2), 1), ((BIG, 1), 0)]:
            self.assertEqual(expected, call(self, tones_above, table, s))
        for s in [(3, 1), (7, 2), (5, 1)]:
            failed(self, CanBe, tones_above, table, s)

    def test_right_sides_are_not_looked_at(self):
        draw = drawing(171)
        for _ in range(60):
            table, s = drawn_square(draw, draw.randint(1, 4)), drawn_s(draw)
            never = (table[0], tuple([(sides, (-90, -90)) for sides, _ in table[1]]))
            if tone_orders(table, s) is None:
                for other in [without_rights(table), never]:
                    self.assertEqual(tones_above(table, s), call(self, tones_above, other, s))
            telling = drawn_telling(draw, table)
            plain = tuple([(numbers, ()) for numbers, _ in telling])
            self.assertEqual(polynomial_of(table, telling), polynomial_of(without_rights(table), plain))

    def test_tones_are_the_roots_of_all_tellings(self):
        draw = drawing(172)
        counts = {}
        for _ in range(250):
            table, s = drawn_square(draw, draw.randint(1, 4)), drawn_s(draw)
            if no_tone(table, s) is None:
                continue
            count = call(self, tones_above, table, s)
            rows = no_tone(table, s)[0]
            self.assertEqual(count, sum([row == unknown and self.is_above(table, row, s)
                for unknown, row in enumerate(rows)]))
            for telling in [drawn_telling(draw, table) for _ in range(3)]:
                polynomial = call(self, polynomial_of, table, telling)
                self.assertEqual(count, roots_over(root_orders(polynomial), s), (table, s, telling))
                self.assertEqual(count, call(self, roots_above, polynomial, s))
                self.assertNotIn(fractions.Fraction(*s), root_orders(polynomial))
            counts[count] = counts.get(count, 0) + 1
        self.assertTrue(all([counts.get(count, 0) > 10 for count in range(3)]), counts)

    def is_above(self, table, row, s):
        ends = low_high(table, row, row)
        return ends is None or ends[0] > fractions.Fraction(*s)

    def test_drawn_polynomials(self):
        draw = drawing(173)
        for _ in range(150):
            table = drawn_square(draw, draw.randint(1, 4))
            telling = drawn_telling(draw, table)
            polynomial = call(self, polynomial_of, table, telling)
            self.assertEqual([numbered(number) for number in slow_polynomial(table, telling)], polynomial)
            self.assertTrue(all([is_number(number) for number in polynomial]))
            self.assertEqual(((0, ((-1) ** table[0], 1)),), polynomial[-1])
            if is_silent(table):
                self.assertEqual(determinant_of(table, telling), polynomial[0])

    def test_several_sides_of_one_unknown(self):
        table = (1, ((((0, 0, 0), (0, 0, 0), (0, 1, None)), None),))
        for numbers, number in [
                ((((0, ONE),), ((0, (-1, 1)),), ()), ()), ((((0, ONE),), ((0, ONE),), ((1, (1, 2)),)), ((0, (2, 1)),
                (1, (1, 2)))), ((((0, ONE), (7, ONE)), ((0, (-1, 1)),), ((1, ONE),)), ((1, ONE), (7, ONE)))]:
            self.assertEqual([number, ((0, (-1, 1)),)], call(self, polynomial_of, table, ((numbers, ()),)))

    def test_powers_of_e_and_of_c_are_not_mixed_up(self):
        table = (2, ((((0, -20, None), (1, -20, None)), None), (((0, -20, None), (1, -20, None)), None)))
        for powers in itertools.product([-20, 0, 1, 2, 200], repeat=4):
            one, two, three, four = [((power, (at + 1, 1)),) for at, power in enumerate(powers)]
            telling = (((one, two), ()), ((three, four), ()))
            expected = [numbered(number) for number in slow_polynomial(table, telling)]
            self.assertEqual(expected, polynomial_of(table, telling))
        telling = (((((BIG, ONE),), ((-7, ONE),)), ()), ((((BIG, ONE),), ()), ()))
        expected = [((BIG - 7, (-1, 1)),), ((BIG, (-1, 1)),), ((0, ONE),)]
        self.assertEqual(expected, call(self, polynomial_of, table, telling))

    def test_roots_of_drawn_polynomials(self):
        draw = drawing(174)
        ties = 0
        for _ in range(400):
            polynomial = [drawn_number(draw, 2, 6) for _ in range(draw.randint(1, 6))]
            if all([number == () for number in polynomial]):
                continue
            orders = root_orders(polynomial)
            for s in [drawn_s(draw), (0, 1), (draw.randint(-3, 3), 1)]:
                self.assertEqual(roots_over(orders, s), call(self, roots_above, polynomial, s), (polynomial, s))
                ties += fractions.Fraction(*s) in orders
        self.assertGreater(ties, 40)

    def test_roots_where_several_indexes_are_least(self):
        one = ((0, ONE),)
        for polynomial, s, expected in [
                ([one, one, one], (0, 1), 0), ([one, one, one], (1, 9), 0), ([one, one, one], (-1, 9), 2),
                ([(), one, one], (0, 1), 1), ([one, (), one], (0, 1), 0), ([one, (), one], (-1, 2), 2),
                ([one, ((1, ONE),), ()], (0, 1), 0), ([one, ((1, ONE),), ()], (-1, 1), 0),
                ([one, ((1, ONE),), (), ()], (-2, 1), 1), ([(), one, ()], (BIG, 7), 1), ([(), (), one], (-5, 3), 2),
                ([((1, ONE),), (), ((0, ONE),)], (1, 2), 0), ([((1, ONE),), (), ((0, ONE),)], (1, 3), 2),
                ([((BIG, ONE),), one], (BIG, 1), 0), ([((BIG, ONE),), one], (BIG - 1, 1), 1), ([one], (0, 1), 0)]:
            self.assertEqual(expected, call(self, roots_above, polynomial, s), (polynomial, s))
