import unittest
from fractions import Fraction

import reference
from leastpowers.determinants import answer_of
from leastpowers.errors import NotExact, NotTold
from leastpowers.forms import is_fraction
from leastpowers.formulas import formula_of, sure_by, told_orders
from leastpowers.ownrows import own_rows
from leastpowers.realnumbers import (
    is_reach, is_real, off_by, reach_of, real_answer, small_of, telling_at, worth_of)
from leastpowers.silence import is_silent
from leastpowers.walks import shortest, walks_of
from samples import ANY, call, drawing, drawn_number, drawn_telling, exchanged, failed
from test_determinants import NOT_EXACT, exact_tables
from test_formulas import ALONE
from test_silence import square_table
from test_walks import TIED

TABLE = (2, ((((0, 0, 0), (1, 0, 0)), (0, 0)), (((0, 1, 1), (1, 0, 0)), None)))
NUMBERS = ((((1, 2), (2, 1)), (1, 1)), (((1, 72), (1, 2)), (0, 1)))
SMALL = (1, 12)
# A right side that may be 0, a side that may be 0, and unlike bounds.
WIDE = (2, ((((0, -1, 1), (1, 3, None)), (0, None)), (((1, 0, 0), (0, 2, 4)), (-2, 1))))


def ratio(worth):
    return worth.as_integer_ratio()


def single(table):
    """Whether no unknown has two sides in a row."""
    return all([len({side[0] for side in sides}) == len(sides) for sides, _ in table[1]])


def real_tables(draw, count, most):
    """So many silent square tables in which no unknown has two sides in a row."""
    found = exact_tables(draw, count // 2, most)
    while len(found) < count:
        table = square_table(draw, draw.randint(1, most))
        if single(table) and is_silent(table):
            found.append(table)
    return found


def ends_at(table, size, small, least, greatest):
    """The least and the greatest absolute that a number within bounds can have."""
    e = Fraction(*small) ** table[0]
    return (Fraction(0) if greatest is None else e ** greatest / size, size * e ** least)


def slow_is_real_number(table, size, small, bounds, thing):
    if not reference.told(reference.fraction, thing):
        return False
    low, high = ends_at(table, size, small, *bounds)
    return low <= abs(Fraction(*thing)) <= high


def slow_is_real(table, size, small, thing):
    """Whether a value of any kind is a real telling, by the definition."""
    if not isinstance(thing, tuple) or len(thing) != len(table[1]):
        return False
    for (sides, right), row in zip(table[1], thing):
        if not isinstance(row, tuple) or len(row) != 2 or not isinstance(row[0], tuple) or len(row[0]) != len(sides):
            return False
        if not all([slow_is_real_number(table, size, small, side[1:], one) for side, one in zip(sides, row[0])]):
            return False
        if right is None:
            if not reference.told(reference.fraction, row[1]) or row[1] != (0, 1):
                return False
        elif not slow_is_real_number(table, size, small, right, row[1]):
            return False
    return True


def drawn_real(draw, table, size, small):
    """A real telling, with numbers at both ends of what is let often."""
    told = []
    for sides, right in table[1]:
        numbers = []
        for bounds in [side[1:] for side in sides] + ([] if right is None else [right]):
            low, high = ends_at(table, size, small, *bounds)
            part = Fraction(draw.choice([0, 0, 1, 2, 7, 7]), 7)
            numbers.append(ratio(draw.choice([-1, 1]) * (low + (high - low) * part)))
        told.append((tuple(numbers[:len(sides)]), (0, 1) if right is None else numbers[-1]))
    return tuple(told)


def reach_sums(table, size, small, items):
    """For each unknown both sums of its own row in the definition of a reach."""
    e = Fraction(*small) ** table[0]
    found = []
    for unknown, row in enumerate(own_rows(table)[0]):
        sides, right = table[1][row]
        reached = Fraction(0) if right is None else size * e ** right[0]
        reached += sum([size * e ** least * items[other] for other, least, _ in sides if other != unknown])
        own = [greatest for other, _, greatest in sides if other == unknown]
        found.append((reached, e ** own[0] / size * items[unknown]))
    return found


def slow_is_reach(table, size, small, thing):
    if not isinstance(thing, tuple) or len(thing) != table[0]:
        return False
    if not all([reference.told(reference.fraction, item) and item[0] >= 0 for item in thing]):
        return False
    items = [Fraction(*item) for item in thing]
    return all([reached <= own for reached, own in reach_sums(table, size, small, items)])


class WorthTest(unittest.TestCase):
    def test_the_example(self):
        self.assertEqual((1, 12), call(self, small_of, TABLE, 2))
        self.assertEqual((1, 9), call(self, small_of, (0, ()), 3))
        self.assertEqual((17, 8), call(self, worth_of, ((-1, (1, 1)), (2, (1, 2))), (1, 2)))
        one, tiny = ((0, (1, 1)),), ((1, (2, 1)),)
        expected = ((((1, 1), (1, 1)), (1, 1)), (((1, 2), (1, 1)), (0, 1)))
        self.assertEqual(expected, call(self, telling_at, (((one, one), one), ((tiny, one), ())), (1, 4)))

    def test_small(self):
        for table, size, expected in [
                ((1, (((), None),)), 1, (1, 1)), ((1, ((((0, 0, 0),), (2, 2)),)), 1, (1, 2)), (TABLE, 1, (1, 3)),
                (TABLE, 9, (1, 243)), ((0, ()), 1, (1, 1)), ((2, (TABLE[1][0], (((1, 0, 0),), (0, 0)))), 5, (1, 75)),
                ((2, ((((0, 0, 0),), None), TABLE[1][1])), 5, (1, 75))]:
            self.assertEqual(expected, call(self, small_of, table, size))

    def test_worths(self):
        for number, at, expected in [
                ((), (2, 3), (0, 1)), (((0, (5, 7)),), (2, 3), (5, 7)), (((3, (9, 4)),), (2, 3), (2, 3)),
                (((-3, (4, 9)),), (2, 3), (3, 2)), (((-2, (1, 1)), (-1, (-3, 1))), (1, 3), (0, 1)),
                (((1, (1, 1)), (2, (-1, 1))), (1, 1), (0, 1)), (((5, (-1, 1)),), (7, 1), (-16807, 1))]:
            self.assertEqual(expected, call(self, worth_of, number, at))

    def test_drawn_worths(self):
        draw = drawing(211)
        for _ in range(300):
            number = drawn_number(draw, 4, 9)
            at = ratio(Fraction(draw.randint(1, 20), draw.randint(1, 20)))
            expected = sum([Fraction(*factor) * Fraction(*at) ** power for power, factor in number], Fraction(0))
            self.assertEqual(ratio(expected), call(self, worth_of, number, at))

    def test_fractions_of_hundreds_of_digits(self):
        at = (10 ** 9 - 7, 10 ** 9 - 6)
        number = ((-200, (1, 3)), (-1, (-5, 7)), (200, (2, 999999937)))
        expected = sum([Fraction(*factor) * Fraction(*at) ** power for power, factor in number])
        self.assertEqual(ratio(expected), call(self, worth_of, number, at))
        long = (3 ** 4000, 2 ** 6000)
        self.assertEqual((long[1] ** 5 * 2, long[0] ** 5), worth_of(((-5, (2, 1)),), long))
        self.assertEqual((long[0] ** 5, long[1] ** 5 // 2), worth_of(((5, (2, 1)),), long))

    def test_drawn_tellings(self):
        draw = drawing(212)
        for table in real_tables(draw, 40, 4):
            telling = drawn_telling(draw, table)
            at = (draw.randint(1, 9), draw.choice([10, 1, 11]))
            at = ratio(Fraction(*at))
            found = call(self, telling_at, telling, at)
            self.assertEqual(tuple([(tuple([worth_of(number, at) for number in numbers]), worth_of(right, at))
                for numbers, right in telling]), found)
            # What the answer is worth is the answer of what the numbers are worth, if there is just one.
            answer = answer_of(table, telling)
            if all([worth_of(den, at)[0] for _, den in answer]):
                worths = [Fraction(*worth_of(num, at)) / Fraction(*worth_of(den, at)) for num, den in answer]
                self.assertEqual(tuple([ratio(worth) for worth in worths]), call(self, real_answer, table, found))
        self.assertEqual((), call(self, telling_at, (), (1, 2)))


class RealTest(unittest.TestCase):
    def test_the_example(self):
        self.assertIs(True, call(self, is_real, TABLE, 2, SMALL, NUMBERS))
        self.assertIs(False, call(self, is_real, TABLE, 1, SMALL, NUMBERS))
        self.assertEqual(((9, 4), (-1, 16)), call(self, real_answer, TABLE, NUMBERS))

    def with_number(self, row, place, thing):
        """The numbers of the example with another one at a place; place 2 is the right side."""
        told = [[*numbers, right] for numbers, right in NUMBERS]
        told[row][place] = thing
        return tuple([(tuple(numbers[:2]), numbers[2]) for numbers in told])

    def test_numbers_just_at_both_ends_and_just_beyond(self):
        # e is 1/144, and size 2: so orders 0 let a number be from 1/2 to 2, the order 1 from 1/288 to 1/72.
        for row, place, low, high in [
                (0, 0, Fraction(1, 2), 2), (0, 1, Fraction(1, 2), 2), (0, 2, Fraction(1, 2), 2),
                (1, 0, Fraction(1, 288), Fraction(1, 72)), (1, 1, Fraction(1, 2), 2)]:
            tiny = Fraction(1, 10 ** 30)
            for worth, expected in [(low, True), (high, True), (low - tiny, False), (high + tiny, False),
                    (low + tiny, True), (high - tiny, True), (0, False)]:
                for sign in [1, -1]:
                    thing = self.with_number(row, place, ratio(Fraction(sign * worth)))
                    self.assertIs(expected, call(self, is_real, TABLE, 2, SMALL, thing), (row, place, worth))

    def test_right_sides_that_are_none(self):
        for right, expected in [((0, 1), True), ((1, 1), False), ((0, 2), False), ((False, 1), False), ((0, True),
                False), (None, False), ((), False), (0, False), ([0, 1], False), ((0, -1), False)]:
            self.assertIs(expected, call(self, is_real, TABLE, 2, SMALL, self.with_number(1, 2, right)), right)

    def test_numbers_that_may_be_0(self):
        one = (1, 1)
        for zero, right in [((0, 1), (0, 1)), ((1, 144 ** 3), (1, 1)), ((-1, 144 ** 3), (-1, 10 ** 50))]:
            thing = (((one, zero), right), ((one, (1, 144 ** 2)), (1, 144)))
            self.assertIs(True, call(self, is_real, WIDE, 1, SMALL, thing))
        for zero, right in [((1, 144 ** 3 - 1), (0, 1)), ((0, 1), (1 + 10 ** 50, 10 ** 50)), ((0, 2), (0, 1))]:
            thing = (((one, zero), right), ((one, (1, 144 ** 2)), (1, 144)))
            self.assertIs(False, call(self, is_real, WIDE, 1, SMALL, thing))

    def test_fractions_that_are_not_in_lowest_terms(self):
        for thing in [(2, 2), (2, 4), (-1, -1), (1, 0), (1, -1), (True, 1), (1, True), 1, (1,), (1, 1, 1), [1, 1],
                None]:
            self.assertIs(False, call(self, is_real, TABLE, 2, SMALL, self.with_number(0, 0, thing)), thing)

    def test_sizes_1_and_9_and_small_as_great_as_can_be(self):
        one = (1, ((((0, 0, 0),), (1, 2)),))
        for size in [1, 9]:
            small = small_of(one, size)
            self.assertEqual((1, 2 * size * size), small)
            for worth, expected in [(Fraction(size), True), (Fraction(1, size), True), (Fraction(size + 1), False),
                    (Fraction(1, size + 1), False)]:
                thing = (((ratio(worth),), small),)
                self.assertIs(expected, call(self, is_real, one, size, small, thing))
                if expected:
                    answer = Fraction(*small) / worth
                    self.assertEqual((ratio(answer),), call(self, real_answer, one, thing))
                    self.assertLessEqual(answer, Fraction(*reach_of(one, size, small)[0]))

    def test_any_value(self):
        values = ANY + list(exchanged(NUMBERS)) + list(exchanged(self.with_number(0, 0, (1, 10 ** 1500))))
        for thing in values:
            for table, size in [(TABLE, 2), (TABLE, 9), ((0, ()), 2), ((1, ((((0, 0, 0),), None),)), 1)]:
                expected = slow_is_real(table, size, (1, 1000), thing)
                self.assertIs(expected, call(self, is_real, table, size, (1, 1000), thing), repr(thing)[:200])

    def test_drawn_tellings_and_answers(self):
        draw = drawing(213)
        for table in real_tables(draw, 60, 5):
            size = draw.choice([1, 2, 9])
            num, den = small_of(table, size)
            small = draw.choice([(num, den), (num, den + 1), ratio(Fraction(num, den) * Fraction(3, 7))])
            thing = drawn_real(draw, table, size, small)
            self.assertTrue(slow_is_real(table, size, small, thing))
            self.assertIs(True, call(self, is_real, table, size, small, thing))
            answer = call(self, real_answer, table, thing)
            self.assertTrue(all([is_fraction(item) for item in answer]))
            for (sides, _), (numbers, right) in zip(table[1], thing):
                whole = sum([Fraction(*number) * Fraction(*answer[side[0]]) for number, side in zip(numbers, sides)])
                self.assertEqual(Fraction(*right), whole)
            for item, most in zip(answer, reach_of(table, size, small)):
                self.assertLessEqual(abs(Fraction(*item)), Fraction(*most))

    def test_no_unknowns(self):
        self.assertIs(True, call(self, is_real, (0, ()), 2, (1, 9), ()))
        self.assertIs(False, call(self, is_real, (0, ()), 2, (1, 9), ((),)))
        self.assertEqual((), call(self, real_answer, (0, ()), ()))
        self.assertEqual((), call(self, reach_of, (0, ()), 2, (1, 9)))
        self.assertIs(True, call(self, is_reach, (0, ()), 2, (1, 9), ()))
        self.assertIs(False, call(self, is_reach, (0, ()), 2, (1, 9), []))


class ReachTest(unittest.TestCase):
    def test_the_example(self):
        self.assertEqual(((9, 2), (1, 8)), call(self, reach_of, TABLE, 2, SMALL))
        self.assertIs(False, call(self, is_reach, TABLE, 2, SMALL, ((5, 1), (1, 1))))
        self.assertIs(True, call(self, is_reach, TABLE, 2, SMALL, ((5, 1), (1, 7))))
        self.assertEqual(((9, 8), (1, 8)), call(self, reach_of, TABLE, 1, (1, 3)))

    def test_just_at_the_edge(self):
        tiny = Fraction(1, 10 ** 30)
        least = [Fraction(9, 2), Fraction(1, 8)]
        self.assertIs(True, call(self, is_reach, TABLE, 2, SMALL, tuple([ratio(item) for item in least])))
        for at in range(2):
            for by, expected in [(tiny, False), (-tiny, False)]:
                items = [item + (by if place == at else 0) for place, item in enumerate(least)]
                thing = tuple([ratio(item) for item in items])
                self.assertIs(slow_is_reach(TABLE, 2, SMALL, thing), call(self, is_reach, TABLE, 2, SMALL, thing))
                self.assertIs(expected, is_reach(TABLE, 2, SMALL, thing))
            for by, expected in [(2, True), (1 + tiny, True), (1 - tiny, False), (0, False)]:
                self.assertIs(expected, is_reach(TABLE, 2, SMALL, tuple([ratio(item * by) for item in least])))

    def test_reaches_of_0(self):
        table = (2, ((((0, 0, 0), (1, 0, 0)), None), (((0, 1, 1), (1, 0, 0)), None)))
        self.assertEqual(((0, 1), (0, 1)), call(self, reach_of, table, 2, SMALL))
        self.assertIs(True, call(self, is_reach, table, 2, SMALL, ((0, 1), (0, 1))))
        self.assertIs(False, call(self, is_reach, table, 2, SMALL, ((1, 1), (-1, 1))))
        self.assertIs(False, call(self, is_reach, table, 2, SMALL, ((0, 1), (0, 2))))

    def test_any_value(self):
        for thing in ANY + list(exchanged(((5, 1), (1, 7)))) + list(exchanged(((9, 2), (1, 8)))):
            for table in [TABLE, WIDE, (0, ()), (1, ((((0, 0, 0),), None),)), (1, ((((0, 0, 2),), (3, None)),))]:
                expected = slow_is_reach(table, 2, SMALL, thing)
                self.assertIs(expected, call(self, is_reach, table, 2, SMALL, thing), repr(thing))

    def test_drawn_tables(self):
        draw = drawing(214)
        for table in real_tables(draw, 60, 5):
            size = draw.choice([1, 2, 9])
            num, den = small_of(table, size)
            small = draw.choice([(num, den), (num, den + 1), ratio(Fraction(num, den) * Fraction(3, 7))])
            reach = call(self, reach_of, table, size, small)
            self.assertTrue(all([is_fraction(item) and item[0] >= 0 for item in reach]))
            items = [Fraction(*item) for item in reach]
            for reached, own in reach_sums(table, size, small, items):
                self.assertEqual(reached, own)
            self.assertIs(True, call(self, is_reach, table, size, small, reach))
            for at in range(table[0]):
                more = tuple([ratio(item + draw.choice([0, Fraction(1, 3)]) * (place == at))
                    for place, item in enumerate(items)])
                self.assertIs(slow_is_reach(table, size, small, more), call(self, is_reach, table, size, small, more))
                if items[at]:
                    less = tuple([ratio(item * (Fraction(2, 3) if place == at else 1))
                        for place, item in enumerate(items)])
                    self.assertIs(False, call(self, is_reach, table, size, small, less))

    def test_fractions_of_hundreds_of_digits(self):
        sides = [[(other, 20 if other != own else 20 - (own % 2), 20) for other in range(6)] for own in range(6)]
        table = (6, tuple([(tuple([(unknown, least, greatest) if unknown == own else (unknown, greatest + 1, None)
            for unknown, least, greatest in row]), (-20, None)) for own, row in enumerate(sides)]))
        self.assertTrue(is_silent(table))
        small = (1, small_of(table, 9)[1] + 999000000)
        reach = reach_of(table, 9, small)
        self.assertTrue(is_reach(table, 9, small, reach))
        items = [Fraction(*item) for item in reach]
        for reached, own in reach_sums(table, 9, small, items):
            self.assertEqual(reached, own)
        self.assertGreater(max([item[0] for item in reach]), 10 ** 900)
        thing = drawn_real(drawing(215), table, 9, small)
        self.assertTrue(is_real(table, 9, small, thing))
        for item, most in zip(real_answer(table, thing), reach):
            self.assertLessEqual(abs(Fraction(*item)), Fraction(*most))


class OffByTest(unittest.TestCase):
    def test_the_example(self):
        self.assertEqual((2, 1), call(self, off_by, TABLE, 2, SMALL, 0))
        self.assertEqual((1, 8), call(self, off_by, TABLE, 1, (1, 3), 0))

    def test_what_is_not_told(self):
        for unknown in [0, 1]:
            self.assertEqual(unknown, failed(self, NotTold, off_by, ALONE, 1, (1, 4), unknown).unknown)
        self.assertEqual(3, failed(self, NotTold, off_by, ALONE, 1, (1, 4), 3).unknown)
        self.assertEqual(0, failed(self, NotTold, off_by, TIED, 1, (1, 3), 0).unknown)
        call(self, off_by, TIED, 1, (1, 3), 1)

    def test_tables_that_are_not_exact(self):
        for table, row in NOT_EXACT:
            if single(table):
                self.assertEqual(row, failed(self, NotExact, off_by, table, 1, small_of(table, 1), 0).row)

    def test_unknowns_with_just_one_walk(self):
        # Then the reach is just what the walk can be at most.
        table = (2, ((((0, 3, 3), (1, 0, 0)), None), (((1, -2, -2),), (4, 4))))
        for size in [1, 2, 9]:
            self.assertEqual((0, 1), call(self, off_by, table, size, small_of(table, size), 0))
            self.assertEqual((0, 1), call(self, off_by, table, size, small_of(table, size), 1))

    def test_drawn_tables(self):
        draw = drawing(216)
        checked, near = 0, 0
        for table in exact_tables(draw, 50, 4):
            size = draw.choice([1, 2, 3])
            num, den = small_of(table, size)
            small = draw.choice([(num, den), (num, 50 * den)])
            e = Fraction(*small) ** table[0]
            for unknown, told in enumerate(told_orders(table)):
                if told in [(), (None,)]:
                    self.assertEqual(unknown, failed(self, NotTold, off_by, table, size, small, unknown).unknown)
                    continue
                by = Fraction(*call(self, off_by, table, size, small, unknown))
                length, walk = shortest(table, unknown)
                item = Fraction(*reach_of(table, size, small)[unknown])
                expected = (item / (size ** (2 * len(walk)) * e ** length) - 1) * size ** (4 * len(walk))
                self.assertEqual(expected, by)
                sign, above, below = formula_of(table, unknown)
                for _ in range(4):
                    thing = drawn_real(draw, table, size, small)
                    along = Fraction(sign)
                    for places, power in [(above, 1), (below, -1)]:
                        for row, place in places:
                            numbers, right = thing[row]
                            along *= Fraction(*(*numbers, right)[place]) ** power
                    found = Fraction(*real_answer(table, thing)[unknown])
                    self.assertLessEqual(abs(found / along - 1), by)
                    checked += 1
                    near += found != along
                self.assertIs(by == 0, sure_by(table, unknown) is None)
        self.assertTrue(checked > 100 and near > 30, (checked, near))

    def test_sums_over_walks_come_to_the_reach(self):
        # With all numbers as great as can be, and own ones as little, each walk is as much as it can be.
        table = (2, ((((0, 0, 0), (1, 1, 1)), (0, 0)), (((1, 0, 0), (0, 1, 1)), None)))
        size, small = 2, small_of(TABLE, 2)
        e = Fraction(*small) ** 2
        item = Fraction(*reach_of(table, size, small)[0])
        whole = sum([size ** (2 * len(walk)) * e ** length for length, walk in walks_of(table, 0, 30)])
        self.assertTrue(0 < item - whole < Fraction(1, 10 ** 20))
