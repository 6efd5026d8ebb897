import fractions
import itertools
import unittest

import oracle
from leastpowers.determinants import answer_of
from leastpowers.errors import NotTold
from leastpowers.forms import is_telling
from leastpowers.formulas import formula_of, parting_tellings, sure_by, told_orders
from leastpowers.numbers import quotient_order, term
from leastpowers.ownrows import own_rows
from leastpowers.tables import ordered_rows
from leastpowers.walks import length_of, second_length, shortest, walks_of
from samples import BIG, call, drawing, failed
from test_determinants import TABLE, exact_tables, refuse
from test_walks import ROUND, TIED, slow_walks

# The unknown 0 without a walk, 2 with one, 3 with a shortest one and a second one of the same length.
ALONE = (4, (
    (((0, 2, 2), (1, 1, 1)), None), (((1, 0, 0), (0, 0, 0)), None), (((2, 3, 3), (0, 1, 1)), (1, 1)),
    (((2, 4, 4), (3, 0, 0)), (2, 2))))


def power_telling(draw, table):
    """A telling of an exact table with factors for which sums that are 0 by chance are rare."""
    told = []
    for sides, right in table[1]:
        numbers = [term(least, (draw.choice([-7, -5, -3, 2, 11]), draw.choice([1, 13]))) for _, least, _ in sides]
        told.append((tuple(numbers), () if right is None else term(right[0], (draw.choice([1, -17, 19]), 1))))
    return tuple(told)


def answer_order(table, telling, unknown):
    """The order of an unknown in the answer of a telling."""
    return quotient_order(answer_of(table, telling)[unknown])


def product_of(table, telling, formula):
    """What a formula tells for a telling, as (numbers above, numbers below) that are dicts from powers to fractions."""
    sign, above, below = formula
    found = []
    for places, start in [(above, sign), (below, 1)]:
        whole = {0: fractions.Fraction(start)}
        for row, place in places:
            numbers, right = telling[row]
            whole = oracle.product(whole, oracle.plain((*numbers, right)[place]))
        found.append(whole)
    return found


def slow_formula(table, walk):
    """The formula of a walk, by the definition."""
    rows = own_rows(table)[0]
    above, below = [], []
    for step, unknown in enumerate(walk):
        sides = [other for other, _, _ in table[1][rows[unknown]][0]]
        below.append((rows[unknown], sides.index(unknown)))
        following = walk[step + 1] if step + 1 < len(walk) else None
        above.append((rows[unknown], len(sides) if following is None else sides.index(following)))
    return ((-1) ** (len(walk) - 1), tuple(sorted(above)), tuple(sorted(below)))


class FormulasTest(unittest.TestCase):
    def check(self, table, unknown):
        """Compares what is told of an unknown with its walks, and checks tellings that part its orders."""
        walks = slow_walks(table, unknown, 8)
        told = call(self, told_orders, table)[unknown]
        if not walks:
            self.assertEqual((None,), told)
            self.assertIsNone(call(self, formula_of, table, unknown))
            self.assertEqual(unknown, failed(self, NotTold, sure_by, table, unknown).unknown)
            self.assertIsNone(call(self, parting_tellings, table, unknown))
            return "none"
        if walks[1:] and walks[1][0] == walks[0][0]:
            self.assertEqual((), told)
            for function in [formula_of, sure_by]:
                self.assertEqual(unknown, failed(self, NotTold, function, table, unknown).unknown)
            self.check_parting(table, unknown)
            return "tied"
        self.assertEqual((walks[0][0],), told)
        self.assertIsNone(call(self, parting_tellings, table, unknown))
        self.assertEqual(slow_formula(table, walks[0][1]), call(self, formula_of, table, unknown))
        by = walks[1][0] - walks[0][0] if walks[1:] else None
        self.assertEqual(by, call(self, sure_by, table, unknown))
        return "one" if by is None else "second"

    def check_parting(self, table, unknown):
        one, other = call(self, parting_tellings, table, unknown)
        self.assertTrue(is_telling(table, one) and is_telling(table, other), (table, one, other))
        orders = {answer_order(table, telling, unknown) for telling in [one, other]}
        self.assertEqual(2, len(orders), (table, one, other))
        for telling in [one, other]:
            self.assertTrue(oracle.is_answer(table, telling, answer_of(table, telling)))

    def test_the_example(self):
        self.assertEqual(((1,), (3,)), call(self, told_orders, TABLE))
        self.assertEqual((1, 1), (call(self, sure_by, TABLE, 0), call(self, sure_by, TABLE, 1)))
        self.assertEqual((1, ((0, 2),), ((0, 0),)), call(self, formula_of, TABLE, 0))
        self.assertEqual((-1, ((0, 2), (1, 0)), ((0, 0), (1, 1))), call(self, formula_of, TABLE, 1))
        self.assertEqual(((), (0,)), call(self, told_orders, TIED))

    def test_tables_that_are_refused(self):
        refuse(self, told_orders, 3)
        for function in [parting_tellings, formula_of, sure_by]:
            refuse(self, function, 3, 0)

    def test_unknowns_with_few_walks(self):
        self.assertEqual(((None,), (None,), (-2,), ()), call(self, told_orders, ALONE))
        self.assertEqual(["none", "none", "one", "tied"], [self.check(ALONE, unknown) for unknown in range(4)])
        self.assertIsNone(call(self, sure_by, ALONE, 2))
        self.assertEqual((1, ((2, 2),), ((2, 0),)), call(self, formula_of, ALONE, 2))
        self.assertEqual((), call(self, told_orders, (0, ())))

    def test_ties_of_walks(self):
        self.assertEqual(((), (6,), (6,), (5,)), call(self, told_orders, ROUND))
        self.assertEqual("tied", self.check(ROUND, 0))
        self.assertEqual("tied", self.check(TIED, 0))
        self.assertEqual((3, 3), (call(self, sure_by, ROUND, 3), second_length(ROUND, 3) - shortest(ROUND, 3)[0]))
        # Three that end at once, and two that go on together first.
        rows = (
            (((0, 0, 0), (1, 1, 1), (2, 0, 0), (3, 0, 0)), (2, 2)), (((1, 0, 0),), (1, 1)), (((2, 0, 0),), (2, 2)),
            (((3, 0, 0), (4, 1, 1), (5, 1, 1)), None), (((4, 0, 0),), (1, 1)), (((5, 0, 0),), (1, 1)))
        self.assertEqual("tied", self.check((6, rows), 0))
        self.assertEqual("tied", self.check((6, rows), 3))
        rows = ((((1, 0, 0), (0, 0, 0)), None), (((1, 0, 0), (2, 1, 1)), (1, 1)), (((2, 0, 0),), (0, 0)))
        self.assertEqual(["tied", "tied", "one"], [self.check((3, (
            (((1, 1, 1), (0, 0, 0)), None), *rows[1:])), unknown) for unknown in range(3)])

    def test_more_ties_than_walks_that_are_listed(self):
        # Each unknown but the last one goes to all behind it, and to the right side, all by the same delay in the end.
        many = 13
        rows = tuple([
            (tuple([(other, other - own, other - own) for other in range(own, many)]), (many - own, many - own))
            for own in range(many)])
        self.assertEqual((), call(self, told_orders, (many, rows))[0])
        self.assertEqual((many, (0,)), call(self, shortest, (many, rows), 0))
        one, other = parting_tellings((many, rows), 0)
        self.assertTrue(is_telling((many, rows), one) and is_telling((many, rows), other))

    def test_drawn_tables(self):
        draw = drawing(151)
        found = {"none": 0, "one": 0, "tied": 0, "second": 0}
        for table in exact_tables(draw, 70, 4):
            for unknown in range(table[0]):
                found[self.check(table, unknown)] += 1
        self.assertTrue(min(found.values()) > 8, found)

    def test_larger_tables_and_their_tellings(self):
        draw = drawing(152)
        near, ties = 0, 0
        for table in exact_tables(draw, 80, 6):
            told = told_orders(table)
            tellings = [power_telling(draw, table) for _ in range(2)]
            answers = [answer_of(table, telling) for telling in tellings]
            for unknown in range(table[0]):
                if told[unknown] == ():
                    ties += 1
                    self.check_parting(table, unknown)
                    continue
                formula = formula_of(table, unknown)
                for telling, answer in zip(tellings, answers):
                    self.assertEqual(told[unknown], (quotient_order(answer[unknown]),))
                    if formula is not None:
                        near += self.check_near(table, telling, unknown, answer[unknown])
        self.assertTrue(near > 40 and ties > 10, (near, ties))

    def check_near(self, table, telling, unknown, quotient):
        """Whether the unknown differs from its formula by just what sure_by tells; it never does by more."""
        by = sure_by(table, unknown)
        above, below = product_of(table, telling, formula_of(table, unknown))
        one = oracle.product(oracle.plain(quotient[0]), below)
        other = oracle.product(oracle.plain(quotient[1]), above)
        self.assertEqual(min(one), min(other))
        rest = oracle.added(one, {power: -factor for power, factor in other.items()})
        if by is None:
            self.assertEqual({}, rest)
            return False
        self.assertTrue(not rest or min(rest) - min(other) >= by)
        return rest != {} and min(rest) - min(other) == by

    def test_rows_and_sides_in_another_order(self):
        draw = drawing(153)
        for table in exact_tables(draw, 40, 4):
            order = tuple(draw.sample(range(table[0]), table[0]))
            moved = ordered_rows(table, order)
            moved = (table[0], tuple([(sides[::-1], right) for sides, right in moved[1]]))
            self.assertEqual(told_orders(table), call(self, told_orders, moved))
            for unknown, told in enumerate(told_orders(table)):
                if told not in [(), (None,)]:
                    sign, above, below = formula_of(table, unknown)
                    shown = [[(order.index(row), self.turned(table, row, place)) for row, place in places]
                        for places in [above, below]]
                    shown = [tuple(sorted(places)) for places in shown]
                    self.assertEqual((sign, *shown), call(self, formula_of, moved, unknown))
                    self.assertEqual(sure_by(table, unknown), sure_by(moved, unknown))

    def turned(self, table, row, place):
        """The place of a side, or of the right side, if the sides stand in the other order."""
        many = len(table[1][row][0])
        return place if place == many else many - 1 - place

    def test_shortest_walks_tell_lengths(self):
        draw = drawing(154)
        for table in exact_tables(draw, 40, 5):
            for unknown, told in enumerate(told_orders(table)):
                best = shortest(table, unknown)
                if best is not None:
                    self.assertEqual(best[0], length_of(table, best[1]))
                    tied = walks_of(table, unknown, best[0])
                    self.assertIs(told == (), len(tied) > 1)
                    self.assertTrue(all([len(set(walk)) == len(walk) for _, walk in tied]))

    def test_powers_of_many_digits(self):
        table = (2, ((((0, -BIG, -BIG), (1, BIG, BIG)), None), (((1, 0, 0), (0, BIG, BIG)), (5, 5))))
        self.assertEqual(((2 * BIG + 5,), (5,)), call(self, told_orders, table))
        self.assertEqual(3 * BIG, call(self, sure_by, table, 0))
        self.assertEqual((-1, ((0, 1), (1, 2)), ((0, 0), (1, 0))), call(self, formula_of, table, 0))


class FoundTest(unittest.TestCase):
    def test_all_ways_of_two_ties(self):
        # All small exact tables of two unknowns with a tie of 0: its own walk, and that by 1.
        ties = 0
        for own, side, back, right, other in itertools.product(range(2), repeat=5):
            table = (2, (
                (((0, own, own), (1, side, side)), (right, right)), (((0, back, back), (1, 0, 0)), (other, other))))
            if own_rows(table) is not None and own_rows(table)[0] == (0, 1):
                tied = right == side + other
                self.assertIs(tied, told_orders(table)[0] == ())
                if tied:
                    ties += 1
                    FormulasTest.check_parting(self, table, 0)
        self.assertGreater(ties, 3)
