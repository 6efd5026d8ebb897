import itertools
import unittest
from fractions import Fraction

from leastpowers import forms, numbers
from leastpowers.errors import NoQuotient
from samples import BIG, call, drawing, drawn_fraction, drawn_number, drawn_order, drawn_quotient, failed

ONE = ((0, (1, 1)),)
E = ((1, (1, 1)),)
ORDERS = [None, -2, -1, 0, 1, 2, BIG]


def plain(number):
    """A number as a dict from powers to Python's own fractions."""
    return {power: Fraction(*factor) for power, factor in number}


def worth(number, at):
    return sum([Fraction(*factor) * at ** power for power, factor in number], Fraction(0))


def quotient_worth(one, at):
    return worth(one[0], at) / worth(one[1], at)


class NumbersTest(unittest.TestCase):
    def number(self, expected, function, *args):
        """Calls what returns a number: it has to be one, and to have these factors."""
        answer = call(self, function, *args)
        self.assertTrue(forms.is_number(answer), answer)
        self.assertEqual({power: factor for power, factor in expected.items() if factor}, plain(answer))

    def test_term(self):
        self.assertEqual(((-3, (2, 5)),), call(self, numbers.term, -3, (2, 5)))
        self.assertEqual((), call(self, numbers.term, 4, (0, 1)))
        self.assertEqual(((0, (-1, 1)),), call(self, numbers.term, 0, (-1, 1)))

    def test_order_and_leading_factor(self):
        number = ((-1, (-3, 2)), (0, (1, 1)), (4, (5, 1)))
        self.assertEqual([-1, (-3, 2)], [call(self, numbers.order_of, number), call(self, numbers.leading_of, number)])
        self.assertEqual([None, None], [call(self, numbers.order_of, ()), call(self, numbers.leading_of, ())])
        self.assertEqual(0, numbers.order_of(ONE))

    def test_total_of_none_one_and_several(self):
        for made in [list, tuple]:
            self.assertEqual((), call(self, numbers.total, made([])))
            self.assertEqual((), call(self, numbers.total, made([(), ()])))
            self.assertEqual(E, call(self, numbers.total, made([E])))
            several = made([((1, (2, 1)),), ((-1, (1, 1)),), ((1, (-2, 1)),)])
            self.assertEqual(((-1, (1, 1)),), call(self, numbers.total, several))
            several = made([((0, (1, 6)),), ((0, (1, 3)),), ((0, (1, 2)),)])
            self.assertEqual(ONE, call(self, numbers.total, several))

    def test_terms_that_cancel(self):
        self.assertEqual((), call(self, numbers.less, ONE, ONE))
        self.assertEqual(E, call(self, numbers.less, ((0, (1, 2)), (1, (1, 1))), ((0, (1, 2)),)))
        one, other = ((0, (1, 1)), (1, (1, 1))), ((0, (1, 1)), (1, (-1, 1)))
        self.assertEqual(((0, (1, 1)), (2, (-1, 1))), call(self, numbers.times, one, other))
        self.assertEqual(((1, (-1, 1)),), call(self, numbers.less, (), E))

    def test_times_nothing(self):
        self.assertEqual([(), (), ()], [numbers.times((), E), numbers.times(E, ()), numbers.times((), ())])
        self.assertEqual(E, numbers.times(ONE, E))

    def test_sums_differences_and_products_of_drawn_numbers(self):
        draw = drawing(13)
        for _ in range(300):
            several = [drawn_number(draw) for _ in range(draw.randint(0, 4))]
            expected = {}
            for number in several:
                for power, factor in plain(number).items():
                    expected[power] = expected.get(power, 0) + factor
            self.number(expected, numbers.total, several)
            one, other = drawn_number(draw), drawn_number(draw)
            expected = plain(one)
            for power, factor in plain(other).items():
                expected[power] = expected.get(power, 0) - factor
            self.number(expected, numbers.less, one, other)
            expected = {}
            for (power, factor), (by, share) in itertools.product(plain(one).items(), plain(other).items()):
                expected[power + by] = expected.get(power + by, 0) + factor * share
            self.number(expected, numbers.times, one, other)
            power, factor = draw.randint(-9, 9), drawn_fraction(draw)
            self.number({power: Fraction(*factor)}, numbers.term, power, factor)

    def test_integers_of_many_digits(self):
        big = ((-BIG, (BIG, BIG + 1)), (BIG, (-1, BIG)))
        expected = {-2 * BIG: Fraction(BIG, BIG + 1) ** 2, 0: Fraction(-2, BIG + 1), 2 * BIG: Fraction(1, BIG ** 2)}
        self.number(expected, numbers.times, big, big)
        self.number({power: 2 * factor for power, factor in plain(big).items()}, numbers.total, [big, big])

    def test_quotient(self):
        self.assertEqual((E, ONE), call(self, numbers.quotient, E, ONE))
        self.assertEqual(((), E), call(self, numbers.quotient, (), E))
        self.assertEqual((((0, (2, 1)),), ((0, (2, 1)),)), numbers.quotient(((0, (2, 1)),), ((0, (2, 1)),)))
        failed(self, NoQuotient, numbers.quotient, E, ())
        failed(self, NoQuotient, numbers.quotient, (), ())

    def test_quotient_order(self):
        self.assertEqual(3, call(self, numbers.quotient_order, (E, ((-2, (1, 7)), (0, (1, 1))))))
        self.assertEqual(-1, call(self, numbers.quotient_order, (ONE, E)))
        self.assertIsNone(call(self, numbers.quotient_order, ((), E)))

    def test_equal_quotients(self):
        two = ((0, (2, 1)),)
        self.assertIs(True, call(self, numbers.are_equal, (ONE, E), (two, ((1, (2, 1)),))))
        self.assertIs(True, call(self, numbers.are_equal, ((), E), ((), two)))
        self.assertIs(False, call(self, numbers.are_equal, (ONE, E), (E, ONE)))
        self.assertIs(False, call(self, numbers.are_equal, (ONE, ONE), (two, ONE)))
        self.assertIs(False, call(self, numbers.are_equal, ((), E), (E, E)))
        both = ((0, (1, 1)), (1, (1, 1)))
        self.assertIs(True, call(self, numbers.are_equal, (both, numbers.times(both, both)), (ONE, both)))

    def test_drawn_quotients(self):
        draw = drawing(14)
        at = Fraction(1, 10 ** 9 + 7)
        for _ in range(200):
            several = [drawn_quotient(draw) for _ in range(draw.randint(0, 4))]
            if several and draw.random() < 0.4:
                several.append((drawn_number(draw), several[0][1]))
            answer = call(self, numbers.total_of, draw.choice([list, tuple])(several))
            self.assertTrue(forms.is_quotient(answer))
            self.assertEqual(sum([quotient_worth(one, at) for one in several], 0), quotient_worth(answer, at))
            one, other = drawn_quotient(draw), drawn_quotient(draw)
            answer = call(self, numbers.times_of, one, other)
            self.assertTrue(forms.is_quotient(answer))
            self.assertEqual(quotient_worth(one, at) * quotient_worth(other, at), quotient_worth(answer, at))
            if other[0]:
                answer = call(self, numbers.over_of, one, other)
                self.assertTrue(forms.is_quotient(answer))
                self.assertEqual(quotient_worth(one, at) / quotient_worth(other, at), quotient_worth(answer, at))
                times = numbers.times(other[0], ((2, (3, 1)),)), numbers.times(other[1], ((2, (3, 1)),))
                self.assertIs(True, call(self, numbers.are_equal, times, other))
            same = quotient_worth(one, at) == quotient_worth(other, at)
            self.assertIs(same, call(self, numbers.are_equal, one, other))

    def test_sum_of_no_quotients_is_0(self):
        for empty in [[], ()]:
            self.assertTrue(numbers.are_equal(((), ONE), call(self, numbers.total_of, empty)))

    def test_over_nothing(self):
        failed(self, NoQuotient, numbers.over_of, (E, ONE), ((), E))
        failed(self, NoQuotient, numbers.over_of, ((), ONE), ((), ONE))
        self.assertEqual((), numbers.over_of(((), ONE), (E, ONE))[0])

    def test_many_long_quotients(self):
        long = [tuple([(power, (power * 31 + at, 999999937)) for power in range(1, 13)]) for at in range(8)]
        answer = numbers.total_of([(ONE, den) for den in long])
        at = Fraction(1, 3)
        self.assertEqual(sum([1 / worth(den, at) for den in long], 0), quotient_worth(answer, at))

    def test_later(self):
        self.assertEqual([3, -1, None, None, BIG + 1], [call(self, numbers.later, order, by) for order, by in [
            (1, 2), (1, -2), (None, 2), (None, -2), (BIG, 1)]])

    def test_not_above(self):
        for at, one in enumerate(ORDERS):
            for place, other in enumerate(ORDERS):
                expected = (at or len(ORDERS)) <= (place or len(ORDERS))
                self.assertIs(expected, call(self, numbers.not_above, one, other), (one, other))

    def test_least_order(self):
        for made in [list, tuple]:
            self.assertIsNone(call(self, numbers.least_order, made([])))
            self.assertIsNone(call(self, numbers.least_order, made([None, None])))
            self.assertEqual(0, call(self, numbers.least_order, made([None, 3, 0, None])))
            self.assertEqual(-3, call(self, numbers.least_order, made([-3, 3, None])))

    def test_least_items(self):
        self.assertEqual((), call(self, numbers.least_items, (), ()))
        one, other = (1, None, None, 0, -1), (2, 5, None, 0, -2)
        self.assertEqual((1, 5, None, 0, -2), call(self, numbers.least_items, one, other))
        draw = drawing(15)
        for _ in range(100):
            one, other = [tuple([drawn_order(draw) for _ in range(4)]) for _ in range(2)]
            least = call(self, numbers.least_items, one, other)
            self.assertIs(tuple, least.__class__)
            for item, pair in zip(least, zip(one, other)):
                self.assertIn(item, pair)
                self.assertTrue(all([numbers.not_above(item, order) for order in pair]))
