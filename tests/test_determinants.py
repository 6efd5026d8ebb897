import fractions
import itertools
import unittest

import oracle
from leastpowers.determinants import answer_of, determinant_of, determinant_span, lead_of, own_gap
from leastpowers.errors import NotExact, NotSilent, NotSquare
from leastpowers.forms import is_number, is_telling
from leastpowers.numbers import term
from leastpowers.ownrows import own_rows
from leastpowers.silence import is_silent, loud_orders
from leastpowers.tables import low_high, ordered_rows
from leastpowers.tellings import is_answer
from samples import BIG, call, drawing, drawn_telling, failed
from test_silence import square_table

ONE = (1, 1)
TABLE = (2, ((((0, 1, 1), (1, 0, 0)), (2, 2)), (((0, 3, 3), (1, 1, 1)), None)))
TELLING = (((((1, ONE),), ((0, (2, 1)),)), ((2, ONE),)), ((((3, ONE),), ((1, ONE),)), ()))
DETERMINANT = ((2, (1, 1)), (3, (-2, 1)))

# Tables that are refused, and the classes and the field of the errors, in the order in which they come.
EXACT_ROW = (((0, 0, 0),), None)
LOUD = (2, ((((0, 0, 0), (1, 0, 0)), (1, 2)), (((0, 0, 1), (0, 0, 0)), None)))
NOT_SQUARE = [
    (0, (((), None),)), (1, ()), (2, TABLE[1] + (EXACT_ROW,)), (3, TABLE[1]), (2, LOUD[1][:1]), (2, LOUD[1] * 2),
    (2, ())]
NOT_SILENT = [LOUD, (1, (((), (0, None)),)), (1, ((((0, 0, None),), (0, 0)),)), (2, (EXACT_ROW, EXACT_ROW))]
NOT_EXACT = [
    ((1, ((((0, 0, 1),), None),)), 0), ((1, ((((0, 0, 0),), (0, 1)),)), 0), ((1, ((((0, 0, 0),), (0, None)),)), 0),
    ((1, ((((0, 0, 0), (0, 1, 1)), None),)), 0), ((2, (EXACT_ROW, (((1, 0, 0), (0, 2, None)), None))), 1),
    ((2, (EXACT_ROW, (((1, 0, 0), (0, 2, 2), (0, 2, 2)), None))), 1),
    ((2, (EXACT_ROW, (((1, 0, 0), (0, 2, 2)), (1, 3)))), 1),
    ((2, ((((0, 0, 0),), (0, 5)), (((1, 0, 0), (0, 2, 2), (0, 2, 2)), None))), 0)]


def exact_table(draw, many, size=2):
    """A table in which each bound is one order, which is silent quite often."""
    rows = []
    for own in range(many):
        sides = [(own, 0)] if draw.random() < 0.95 else []
        for unknown in draw.sample([other for other in range(many) if other != own], draw.randint(0, min(3, many - 1))):
            sides.append((unknown, draw.choice([1, 1, 1, 2, 0, -1, size])))
        by = draw.randint(-size, size)
        right = draw.choice([None, draw.randint(-size, size)])
        sides = tuple([(unknown, order + by, order + by) for unknown, order in draw.sample(sides, len(sides))])
        rows.append((sides, None if right is None else (right, right)))
    return (many, tuple(draw.sample(rows, many)))


def exact_tables(draw, count, most):
    """So many drawn tables that are exact and silent."""
    found = []
    while len(found) < count:
        table = exact_table(draw, draw.randint(1, most))
        if is_silent(table):
            found.append(table)
    return found


def refuse(test, function, most, *args):
    """Checks that a function refuses tables by NotSquare, NotSilent, NotExact: by so many of these, in this order."""
    for table in NOT_SQUARE:
        failed(test, NotSquare, function, table, *args)
    for table in NOT_SILENT if most > 1 else []:
        error = failed(test, NotSilent, function, table, *args)
        test.assertEqual(loud_orders(table), error.orders)
        test.assertTrue(oracle.stands(oracle.silent(table), error.orders))
        test.assertNotEqual((None,) * table[0], error.orders)
    for table, row in NOT_EXACT if most > 2 else []:
        test.assertEqual(row, failed(test, NotExact, function, table, *args).row)


def rings(options):
    """All rings of unknowns, each as the list of its steps, that begin with their least unknown."""
    found = []
    for size in range(2, len(options) + 1):
        for ring in itertools.permutations(range(len(options)), size):
            steps = list(zip(ring, ring[1:] + ring[:1]))
            if ring[0] == min(ring) and all([other in options[unknown] for unknown, other in steps]):
                found.append(steps)
    return found


def slow_options(table, rows):
    """The delays of the waits of the own rows, by the definition."""
    placed = {(row, wait[0]): dict(wait[1]) for row, wait in oracle.placed_waits(table)}
    return [placed[row, unknown] for unknown, row in enumerate(rows)]


def long_number(draw, order):
    """A number with twelve terms."""
    factors = [(draw.choice([-1, 1]) * draw.randint(1, 10 ** 9 - 1), 1) for _ in range(12)]
    powers = [order, *sorted(draw.sample(range(order + 1, 201), 11))]
    return tuple(zip(powers, factors))


def worth(number):
    """What a number is if e is 1/3."""
    return sum([fractions.Fraction(*factor) * fractions.Fraction(1, 3) ** power for power, factor in number])


def numbered(number):
    """A dict from powers to fractions as a number."""
    return tuple([(power, number[power].as_integer_ratio()) for power in sorted(number)])


class DeterminantsTest(unittest.TestCase):
    def test_the_example(self):
        self.assertEqual((2, 2), call(self, determinant_span, TABLE))
        self.assertEqual(1, call(self, own_gap, TABLE))
        self.assertEqual(DETERMINANT, call(self, determinant_of, TABLE, TELLING))
        self.assertEqual((2, ONE), call(self, lead_of, TABLE, TELLING))
        expected = ((((3, ONE),), DETERMINANT), (((5, (-1, 1)),), DETERMINANT))
        self.assertEqual(expected, call(self, answer_of, TABLE, TELLING))

    def test_tables_that_are_refused(self):
        refuse(self, determinant_span, 2)
        refuse(self, own_gap, 3)
        for function in [determinant_of, lead_of, answer_of]:
            refuse(self, function, 2, ())

    def test_tables_that_are_not_exact(self):
        for table, row in NOT_EXACT:
            self.assertIs(True, is_silent(table))
            call(self, determinant_span, table)
            self.assertEqual(row, failed(self, NotExact, own_gap, table).row)

    def test_no_unknowns(self):
        self.assertEqual((0, 0), call(self, determinant_span, (0, ())))
        self.assertIsNone(call(self, own_gap, (0, ())))
        self.assertEqual(((0, ONE),), call(self, determinant_of, (0, ()), ()))
        self.assertEqual((0, ONE), call(self, lead_of, (0, ()), ()))
        self.assertEqual((), call(self, answer_of, (0, ()), ()))

    def test_own_numbers_at_their_least_and_at_their_greatest(self):
        table = (2, ((((0, 1, 4), (1, 7, None)), (0, None)), (((0, 9, 9), (1, -2, 3), (1, 5, 5)), None)))
        self.assertEqual((-1, 7), call(self, determinant_span, table))
        for orders, expected in [((1, -2), -1), ((4, 3), 7), ((1, 3), 4), ((4, -1), 3)]:
            one, other = [term(order, (2, 1)) for order in orders]
            telling = (((one, ((7, ONE),)), ()), ((((9, ONE),), other, ((5, (1, 3)),)), ()))
            self.assertTrue(is_telling(table, telling))
            self.assertEqual((expected, (4, 1)), call(self, lead_of, table, telling))
            self.assertEqual((expected, (4, 1)), call(self, determinant_of, table, telling)[0])

    def test_several_sides_of_one_own_unknown(self):
        # LOW is the least of all, HIGH the greatest of the one that the others can't reach.
        table = (1, ((((0, 3, 5), (0, 0, 2), (0, 4, None)), None),))
        self.assertEqual((0, 2), call(self, determinant_span, table))
        telling = (((((3, ONE),), ((2, (-1, 2)), (3, (-1, 1))), ()), ()),)
        self.assertTrue(is_telling(table, telling))
        self.assertEqual(((2, (-1, 2)),), call(self, determinant_of, table, telling))
        self.assertEqual((2, (-1, 2)), call(self, lead_of, table, telling))

    def test_spans_are_the_orders_of_determinants(self):
        draw = drawing(131)
        reached = {"least": 0, "greatest": 0}
        for _ in range(150):
            table = square_table(draw, draw.randint(1, 4))
            if not is_silent(table):
                continue
            least, greatest = call(self, determinant_span, table)
            ends = [low_high(table, row, unknown) for unknown, row in enumerate(own_rows(table)[0])]
            self.assertEqual((least, greatest), (sum([low for low, _ in ends]), sum([high for _, high in ends])))
            for telling in [drawn_telling(draw, table) for _ in range(4)]:
                order = min(oracle.determinant(table, telling))
                self.assertTrue(least <= order <= greatest)
                reached["least"] += order == least
                reached["greatest"] += order == greatest
        self.assertTrue(min(reached.values()) > 30, reached)

    def test_drawn_determinants_and_answers(self):
        draw = drawing(132)
        told, signs, zeros = 0, set(), 0
        for _ in range(200):
            table = square_table(draw, draw.randint(1, 4))
            if not is_silent(table):
                continue
            told += 1
            telling = drawn_telling(draw, table)
            expected = numbered(oracle.determinant(table, telling))
            determinant = call(self, determinant_of, table, telling)
            self.assertEqual(expected, determinant)
            self.assertEqual(expected[0], call(self, lead_of, table, telling))
            answer = call(self, answer_of, table, telling)
            self.assertTrue(all([den == determinant and is_number(num) for num, den in answer]))
            self.assertTrue(oracle.is_answer(table, telling, answer), (table, telling))
            self.assertIs(True, is_answer(table, telling, answer))
            zeros += sum([num == () for num, _ in answer])
            order = own_rows(table)[0]
            signs.add(sum([one > other for one, other in itertools.combinations(order, 2)]) % 2)
        self.assertGreater(told, 60)
        self.assertGreater(zeros, 10)
        self.assertEqual({0, 1}, signs)

    def test_rows_in_another_order_change_the_sign(self):
        draw = drawing(133)
        for table in exact_tables(draw, 30, 4):
            telling = drawn_telling(draw, table)
            power, (num, den) = lead_of(table, telling)
            for order in itertools.permutations(range(table[0])):
                turns = sum([one > other for one, other in itertools.combinations(order, 2)])
                moved = ordered_rows(table, order), tuple([telling[row] for row in order])
                self.assertEqual((power, ((-1) ** turns * num, den)), call(self, lead_of, *moved))
                self.assertEqual((power, ((-1) ** turns * num, den)), determinant_of(*moved)[0])
                self.assertTrue(oracle.is_answer(*moved, answer_of(*moved)))

    def test_right_sides_that_may_be_0_and_that_are_none(self):
        table = (2, ((((0, 0, 0), (1, 1, 1)), (3, None)), (((1, 0, 0),), None)))
        one, e = ((0, ONE),), ((1, ONE),)
        for right in [(), ((3, (1, 2)),), ((9, (-2, 7)), (11, ONE))]:
            telling = (((one, e), right), ((one,), ()))
            self.assertTrue(is_telling(table, telling))
            self.assertEqual(((right, one), ((), one)), call(self, answer_of, table, telling))

    def test_unlike_dens_of_factors(self):
        table = (2, ((((0, 0, 0), (1, 1, 1)), (0, 0)), (((0, 1, 1), (1, 0, 0)), (0, 0))))
        telling = (
            ((((0, (1, 6)), (5, (2, 35))), ((1, (3, 10)),)), ((0, (5, 21)),)),
            ((((1, (7, 15)),), ((0, (11, 14)),)), ((0, (1, 999999937)),)))
        self.assertTrue(is_telling(table, telling))
        self.assertEqual(
            ((0, (11, 84)), (2, (-7, 50)), (5, (11, 245))), call(self, determinant_of, table, telling))
        self.assertTrue(oracle.is_answer(table, telling, call(self, answer_of, table, telling)))

    def test_long_numbers(self):
        draw = drawing(134)
        many = 6
        rows = [(tuple([(other, int(other != own), int(other != own)) for other in range(many)]), (0, None))
            for own in range(many)]
        table = (many, tuple(rows))
        telling = tuple([(tuple([long_number(draw, least) for _, least, _ in sides]), long_number(draw, 0))
            for sides, _ in rows])
        self.assertTrue(is_telling(table, telling))
        answer = answer_of(table, telling)
        # The answer is right with 1/3 in the place of e, where its rows can be added quickly.
        whole = worth(answer[0][1])
        for numbers, right in telling:
            nums = [worth(number) * worth(num) for number, (num, _) in zip(numbers, answer)]
            self.assertEqual(worth(right) * whole, sum(nums))

    def test_powers_of_many_digits(self):
        table = (1, ((((0, BIG, BIG),), (-BIG, -BIG)),))
        telling = (((((BIG, (2, 1)),),), ((-BIG, ONE),)),)
        self.assertEqual((BIG, BIG), call(self, determinant_span, table))
        self.assertEqual(((BIG, (2, 1)),), call(self, determinant_of, table, telling))
        self.assertEqual(((((-BIG, ONE),), ((BIG, (2, 1)),)),), call(self, answer_of, table, telling))


class OwnGapTest(unittest.TestCase):
    def test_rings_and_no_ring(self):
        for rows, expected in [
                (((((0, 0, 0),), None),), None),
                (((((0, 0, 0), (1, 1, 1)), None), (((1, 0, 0),), (0, 0))), None),
                (((((0, 0, 0), (1, 1, 1)), (9, 9)), (((1, 0, 0), (0, 0, 0)), (9, 9))), 1),
                (((((0, 0, 0), (1, 7, 7)), None), (((1, 0, 0), (0, -3, -3)), None)), 4),
                (((((1, 0, 0), (0, -3, -3)), None), (((0, 0, 0), (1, 7, 7)), None)), 4),
                (((((0, 0, 0), (1, 1, 1)), None), (((1, 0, 0), (2, 1, 1)), None), (((2, 0, 0), (0, 1, 1)), None)), 3),
                (((((0, 0, 0), (1, 1, 1)), None), (((1, 0, 0), (2, 1, 1), (0, 1, 1)), None),
                    (((2, 0, 0), (0, 1, 1)), None)), 2),
                (((((0, 0, 0), (1, BIG, BIG)), None), (((1, 0, 0), (0, 5, 5)), None)), BIG + 5)]:
            self.assertEqual(expected, call(self, own_gap, (len(rows), rows)), rows)

    def test_drawn_tables(self):
        draw = drawing(135)
        found = {True: 0, False: 0}
        for table in exact_tables(draw, 150, 5):
            options = slow_options(table, own_rows(table)[0])
            sums = [sum([options[unknown][other] for unknown, other in ring]) for ring in rings(options)]
            self.assertEqual(min(sums, default=None), call(self, own_gap, table), table)
            self.assertTrue(all([by > 0 for by in sums]))
            found[sums == []] += 1
        self.assertTrue(min(found.values()) > 20, found)

    def test_it_is_how_near_the_determinant_is_to_the_product_of_own_sides(self):
        draw = drawing(136)
        reached = 0
        for table in exact_tables(draw, 60, 4):
            gap = call(self, own_gap, table)
            for _ in range(3):
                # With one term in each number, and unlike factors, what is not equal to the product is easily seen.
                telling = tuple([(
                    tuple([term(least, (draw.choice([-7, -5, -3, 2, 11]), 1)) for _, least, _ in sides]),
                    () if right is None else term(right[0], ONE)) for sides, right in table[1]])
                power, (num, den) = lead_of(table, telling)
                determinant = oracle.determinant(table, telling)
                rest = oracle.added(determinant, {power: fractions.Fraction(-num, den)})
                if gap is None:
                    self.assertEqual({}, rest)
                elif rest:
                    self.assertGreaterEqual(min(rest) - power, gap)
                    reached += min(rest) - power == gap
        self.assertGreater(reached, 30)
