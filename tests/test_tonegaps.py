import fractions
import itertools
import math
import unittest

from leastpowers.counted import tones_above
from leastpowers.errors import CanBe
from leastpowers.forms import is_fraction
from leastpowers.tables import moved_rows, without_rights
from leastpowers.tonegaps import gap_of
from leastpowers.tones import tone_orders
from samples import BIG, call, drawing, failed
from test_determinants import exact_table, refuse
from test_tones import HALF, TONED, drawn_s, drawn_square


def slow_gap(table, s):
    """The gap at s, by trying all fractions with dens up to the number of unknowns, as far as tones can be."""
    many = table[0]
    powers = [power for sides, _ in table[1] for _, *bounds in sides for power in bounds if power is not None]
    far = (2 * many - 1) * max([abs(power) for power in powers], default=0)
    tried = [(num, den) for den in range(1, many + 1) for num in range(-far * den, far * den + 1)
        if math.gcd(num, den) == 1]
    tried = sorted(tried, key=lambda pair: fractions.Fraction(*pair))
    at = fractions.Fraction(*s)
    below = [pair for pair in tried if fractions.Fraction(*pair) < at]
    above = [pair for pair in tried if fractions.Fraction(*pair) > at]
    found = [[pair for pair in pairs if tone_orders(table, pair) is not None][:1] for pairs in [below[::-1], above]]
    return tuple([pairs[0] if pairs else None for pairs in found])


class GapOfTest(unittest.TestCase):
    def test_the_example(self):
        self.assertEqual(((1, 1), None), call(self, gap_of, TONED, (3, 2)))
        self.assertEqual((None, (1, 1)), call(self, gap_of, TONED, (0, 1)))
        self.assertEqual((None, (1, 2)), call(self, gap_of, HALF, (0, 1)))
        self.assertEqual((None, None), call(self, gap_of, (0, ()), (0, 1)))

    def test_tables_that_are_refused(self):
        refuse(self, gap_of, 1, (1, 2))
        for table, s in [(TONED, (1, 1)), (HALF, (1, 2)), ((1, ((((0, -1, 2),), None),)), (1, 3))]:
            self.assertEqual(tone_orders(table, s), failed(self, CanBe, gap_of, table, s).orders)

    def test_none_below_above_and_on_both_sides(self):
        two = (2, ((((0, -3, -3),), None), (((1, 4, 6),), None)))
        for s, expected in [
                ((-7, 2), (None, (-3, 1))), ((-4, 1), (None, (-3, 1))), ((-5, 2), ((-3, 1), (4, 1))),
                ((0, 1), ((-3, 1), (4, 1))), ((11, 3), ((-3, 1), (4, 1))), ((13, 2), ((6, 1), None)),
                ((BIG, 7), ((6, 1), None)), ((-BIG, 7), (None, (-3, 1)))]:
            self.assertEqual(expected, call(self, gap_of, two, s), s)
        for table in [(1, (((), None),)), (3, (((), None), (((0, 1, 1),), None), (((0, 5, 5),), None)))]:
            for s in [(0, 1), (7, 3), (-BIG, 1)]:
                self.assertEqual((None, None), call(self, gap_of, table, s))
        self.assertEqual(((2, 1), None), call(self, gap_of, (1, ((((0, 2, 2),), None),)), (5, 2)))
        # An own tone can be of each order from 1 on, and of none below.
        self.assertEqual((None, (1, 1)), call(self, gap_of, (1, ((((0, 1, None),), None),)), (1, 2)))

    def test_tones_as_far_as_they_can_be(self):
        # Each unknown but the last one makes up for the next one, as the last one, by c, for the first one.
        for many, size in itertools.product(range(1, 7), [1, 20]):
            rows = [(((at, -size, -size), (at + 1, size, size)), None) for at in range(many - 1)]
            table = (many, (*rows, (((0, size, size),), None)))
            lower = (-size, 1) if many > 1 else None
            upper = ((2 * many - 1) * size, 1)
            for s in [(0, 1), (1 - 2 * size, 2), (2 * upper[0] - 1, 2)]:
                self.assertEqual((lower, upper), call(self, gap_of, table, s))
            self.assertEqual((upper, None), call(self, gap_of, table, (2 * upper[0] + 1, 2)))

    def test_dens_up_to_the_number_of_unknowns(self):
        for many in range(1, 7):
            for power in range(many):
                rows = [(((unknown + 1) % many, power if unknown == 0 else 0, power if unknown == 0 else 0),)
                    for unknown in range(many)]
                table = (many, tuple([(sides, None) for sides in rows]))
                at = fractions.Fraction(power, many).as_integer_ratio()
                self.assertEqual((None, at), call(self, gap_of, table, (-1, 13)))
                self.assertEqual((at, None), call(self, gap_of, table, (14, 13)))
                self.assertEqual(many, tones_above(table, (-1, 13)))

    def test_drawn_tables(self):
        draw = drawing(181)
        found = {"below": 0, "above": 0, "both": 0, "none": 0, "parts": 0}
        for _ in range(110):
            table, s = draw.choice([drawn_square, exact_table])(draw, draw.randint(1, 3)), drawn_s(draw)
            if tone_orders(table, s) is not None:
                continue
            gap = call(self, gap_of, table, s)
            self.assertEqual(slow_gap(table, s), gap, (table, s))
            lower, upper = gap
            name = {(0, 0): "both", (0, 1): "below", (1, 0): "above", (1, 1): "none"}[lower is None, upper is None]
            found[name] += 1
            for end in gap:
                if end is not None:
                    self.assertTrue(is_fraction(end) and 1 <= end[1] <= table[0])
                    found["parts"] += end[1] > 1
        self.assertTrue(min(found.values()) > 3, found)

    def test_between_the_ends_as_many_tones_are_above(self):
        draw = drawing(182)
        checked = 0
        for _ in range(150):
            table, s = drawn_square(draw, draw.randint(1, 5)), drawn_s(draw)
            if tone_orders(table, s) is not None:
                continue
            lower, upper = [None if end is None else fractions.Fraction(*end) for end in call(self, gap_of, table, s)]
            at = fractions.Fraction(*s)
            self.assertTrue((lower is None or lower < at) and (upper is None or at < upper))
            low, high = at - 50 if lower is None else lower, at + 50 if upper is None else upper
            for part in [1, 10, 40, 63]:
                between = (low + (high - low) * fractions.Fraction(part, 64)).as_integer_ratio()
                self.assertEqual(tones_above(table, s), tones_above(table, between))
                self.assertEqual(gap_of(table, s), gap_of(table, between))
                checked += 1
            for end in [lower, upper]:
                self.assertTrue(end is None or tone_orders(table, end.as_integer_ratio()) is not None)
        self.assertGreater(checked, 100)

    def test_tables_that_are_written_otherwise(self):
        draw = drawing(183)
        for _ in range(60):
            table, s = drawn_square(draw, draw.randint(1, 5)), drawn_s(draw)
            if tone_orders(table, s) is None:
                lower, upper = gap_of(table, s)
                self.assertEqual((lower, upper), call(self, gap_of, without_rights(table), s))
                # With all bounds greater by 3 all tones are later by 3.
                moved = [None if end is None else (end[0] + 3 * end[1], end[1]) for end in (lower, upper)]
                table = moved_rows(table, (3,) * table[0])
                self.assertEqual(tuple(moved), call(self, gap_of, table, (s[0] + 3 * s[1], s[1])))

    def test_powers_of_many_digits(self):
        table = (2, ((((1, BIG, BIG),), None), (((0, 0, 0),), None)))
        self.assertEqual((None, (BIG, 2)), call(self, gap_of, table, (0, 1)))
        self.assertEqual(((BIG, 2), None), call(self, gap_of, table, (BIG, 1)))
