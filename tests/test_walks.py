import unittest

from leastpowers.errors import TooMany
from leastpowers.ownrows import own_rows
from leastpowers.tables import ordered_rows
from leastpowers.walks import is_walk, length_of, second_length, shortest, walks_of
from samples import ANY, BIG, call, drawing, exchanged, failed
from test_determinants import TABLE, exact_table, exact_tables, refuse

TIED = (2, ((((0, 0, 0), (1, 1, 1)), (1, 1)), (((0, 1, 1), (1, 0, 0)), (0, 0))))
# Unknown 0 goes to 1, 2 by equal delays, both to 3, and this one ends or goes back to 0.
ROUND = (4, (
    (((0, 0, 0), (1, 1, 1), (2, 1, 1)), None), (((1, 0, 0), (3, 1, 1)), None), (((2, 0, 0), (3, 1, 1)), None),
    (((3, 0, 0), (0, 1, 1)), (5, 5))))


def orders_in(table, rows, unknown):
    """The orders of the sides of an unknown's own row, and that of its right side behind all unknowns."""
    sides, right = table[1][rows[unknown]]
    orders = {other: least for other, least, _ in sides}
    if right is not None:
        orders[table[0]] = right[0]
    return orders


def slow_is_walk(table, thing):
    """Whether a value of any kind is a walk, by the definition."""
    many = table[0]
    if not isinstance(thing, tuple) or not thing or any([item.__class__ is not int for item in thing]):
        return False
    if any([item not in range(many) for item in thing]):
        return False
    rows = own_rows(table)[0]
    for one, other in zip(thing, thing[1:]):
        if one == other or other not in orders_in(table, rows, one):
            return False
    return many in orders_in(table, rows, thing[-1])


def slow_length(table, walk):
    """The length of a walk, by the definition."""
    rows = own_rows(table)[0]
    length = orders_in(table, rows, walk[-1])[table[0]]
    for one, other in zip(walk, walk[1:]):
        length += orders_in(table, rows, one)[other]
    return length - sum([orders_in(table, rows, unknown)[unknown] for unknown in walk])


def slow_walks(table, unknown, steps):
    """All walks of an unknown with at most so many unknowns."""
    rows = own_rows(table)[0]
    starts, found = [(unknown,)], []
    for _ in range(steps):
        found += [start for start in starts if slow_is_walk(table, start)]
        starts = [(*start, other) for start in starts for other in orders_in(table, rows, start[-1])
            if other not in (start[-1], table[0])]
    return sorted([(slow_length(table, walk), walk) for walk in found])


class WalksTest(unittest.TestCase):
    def test_the_example(self):
        self.assertEqual((1, (0,)), call(self, shortest, TABLE, 0))
        self.assertEqual((3, (1, 0)), call(self, shortest, TABLE, 1))
        self.assertEqual(2, call(self, second_length, TABLE, 0))
        self.assertEqual([(3, (1, 0)), (4, (1, 0, 1, 0))], call(self, walks_of, TABLE, 1, 4))
        self.assertIs(False, call(self, is_walk, TABLE, (0, 1)))
        self.assertEqual(((1, (0,)), 1), (call(self, shortest, TIED, 0), call(self, second_length, TIED, 0)))

    def test_tables_that_are_refused(self):
        for thing in [(0,), [], None, ((), ())]:
            refuse(self, is_walk, 3, thing)
        refuse(self, length_of, 3, (0,))
        refuse(self, walks_of, 3, 0, 5)
        refuse(self, shortest, 3, 0)
        refuse(self, second_length, 3, 0)

    def test_what_walks_are(self):
        for walk, expected in [
                ((3,), True), ((0,), False), ((0, 1), False), ((0, 1, 3), True), ((0, 3), False), ((1, 3), True),
                ((3, 0, 2, 3), True), ((3, 3), False), ((1, 0, 3), False), ((3, 0, 2, 3, 0, 1, 3), True), ((4,), False),
                ((0, 0, 1, 3), False), ((3, 0), False)]:
            self.assertIs(expected, call(self, is_walk, ROUND, walk), walk)
        for walk, expected in [((3,), 5), ((0, 1, 3), 7), ((3, 0, 2, 3), 8), ((3, 0, 2, 3, 0, 1, 3), 11)]:
            self.assertEqual(expected, call(self, length_of, ROUND, walk))

    def test_any_value_as_a_walk(self):
        for thing in ANY + list(exchanged((3, 0, 2, 3))) + list(exchanged((1, 0, 1, 0))) + [(0, True), (-1,), (BIG,)]:
            for table in [ROUND, TABLE, TIED, (0, ()), (1, ((((0, 0, 0),), (0, 0)),))]:
                self.assertIs(slow_is_walk(table, thing), call(self, is_walk, table, thing), (table, repr(thing)))

    def test_walks_round_a_ring(self):
        both = [(7, (0, 1, 3)), (7, (0, 2, 3))]
        self.assertEqual([], call(self, walks_of, ROUND, 0, 6))
        self.assertEqual(both, call(self, walks_of, ROUND, 0, 7))
        self.assertEqual(both, call(self, walks_of, ROUND, 0, 9))
        longer = [(10, walk + more) for _, walk in both for more in [(0, 1, 3), (0, 2, 3)]]
        self.assertEqual(both + longer, call(self, walks_of, ROUND, 0, 10))
        self.assertEqual([], call(self, walks_of, ROUND, 3, -BIG))
        self.assertEqual([(5, (3,)), (8, (3, 0, 1, 3)), (8, (3, 0, 2, 3))], call(self, walks_of, ROUND, 3, 8))

    def test_two_thousand_walks_and_more(self):
        # By each number of rings there is one walk: of the unknown 0 the lengths are 0, 1, 2 and so on.
        ring = (2, ((((0, 0, 0), (1, 1, 1)), (0, 0)), (((1, 0, 0), (0, 0, 0)), None)))
        walks = walks_of(ring, 0, 1999)
        self.assertEqual([(length, (0, 1) * length + (0,)) for length in range(2000)], walks)
        for most in [2000, 2001, BIG]:
            self.assertEqual(2000, failed(self, TooMany, walks_of, ring, 0, most).most)
        self.assertEqual(2000, failed(self, TooMany, walks_of, ring, 1, 2000).most)
        self.assertEqual(2000, len(walks_of(ring, 1, 1999)))
        self.assertEqual(2 ** 10 - 2, len(walks_of(ROUND, 0, 4 + 3 * 9)))
        self.assertEqual(2000, failed(self, TooMany, walks_of, ROUND, 0, 4 + 3 * 11).most)
        self.assertEqual(2000, failed(self, TooMany, walks_of, ROUND, 3, BIG).most)

    def test_walks_that_go_round_long_before_they_end(self):
        # The right side is beside a ring of 0 and 1 that is never an end itself.
        rows = (
            (((0, 0, 0), (1, 1, 1)), None), (((1, 0, 0), (0, 0, 0), (2, 0, 0)), None), (((2, 0, 0),), (0, 0)),
            (((3, 0, 0), (0, 9, 9)), None))
        self.assertEqual([(1, (0, 1, 2)), (2, (0, 1, 0, 1, 2))], call(self, walks_of, (4, rows), 0, 2))
        self.assertEqual(2000, len(walks_of((4, rows), 0, 2000)))
        self.assertEqual(2000, failed(self, TooMany, walks_of, (4, rows), 0, 2001).most)
        self.assertEqual(2000, failed(self, TooMany, walks_of, (4, rows), 3, BIG).most)

    def test_many_walks_without_a_ring(self):
        sides = [[(other, 0 if other <= own else 1, 0 if other <= own else 1) for other in range(own, 6)]
            for own in range(6)]
        table = (6, tuple([(tuple(own), (0, 0)) for own in sides]))
        self.assertEqual(32, len(call(self, walks_of, table, 0, BIG)))
        self.assertEqual((0, (0,)), call(self, shortest, table, 0))
        self.assertEqual(1, call(self, second_length, table, 0))

    def test_unknowns_without_a_walk_and_with_one(self):
        rows = ((((0, 2, 2), (1, 1, 1)), None), (((1, 0, 0), (0, 0, 0)), None), (((2, 3, 3), (0, 1, 1)), (1, 1)))
        for unknown, best in [(0, None), (1, None), (2, (-2, (2,)))]:
            self.assertEqual(best, call(self, shortest, (3, rows), unknown))
            self.assertIsNone(call(self, second_length, (3, rows), unknown))
            self.assertEqual([] if best is None else [best], call(self, walks_of, (3, rows), unknown, BIG))

    def test_the_least_of_several_shortest_walks(self):
        # What ends at once, or goes on to a lesser unknown, comes ahead.
        self.assertEqual((7, (0, 1, 3)), call(self, shortest, ROUND, 0))
        self.assertEqual(7, call(self, second_length, ROUND, 0))
        rows = ((((2, 1, 1), (1, 1, 1), (0, 0, 0)), (3, 3)), (((1, 0, 0),), (2, 2)), (((2, 0, 0),), (2, 2)))
        self.assertEqual((3, (0,)), call(self, shortest, (3, rows), 0))
        self.assertEqual([(3, (0,)), (3, (0, 1)), (3, (0, 2))], call(self, walks_of, (3, rows), 0, 3))
        self.assertEqual(3, call(self, second_length, (3, rows), 0))

    def test_drawn_tables(self):
        draw = drawing(141)
        found = {"none": 0, "one": 0, "tied": 0, "second": 0}
        for table in exact_tables(draw, 120, 4):
            for unknown in range(table[0]):
                walks = slow_walks(table, unknown, 8)
                best = call(self, shortest, table, unknown)
                self.assertEqual(walks[0] if walks else None, best, (table, unknown))
                second = call(self, second_length, table, unknown)
                self.assertEqual(walks[1][0] if walks[1:] else None, second, (table, unknown))
                for most in [walk[0] for walk in walks[:9:4]] + [walk[0] - 1 for walk in walks[:3]]:
                    # Rings are longer by 1 at least, so with so few steps more than the shortest nothing lacks.
                    if most <= walks[0][0] + 1:
                        expected = [walk for walk in walks if walk[0] <= most]
                        self.assertEqual(expected, call(self, walks_of, table, unknown, most))
                for length, walk in walks[:20]:
                    self.assertIs(True, is_walk(table, walk))
                    self.assertEqual(length, call(self, length_of, table, walk))
                name = "none" if not walks else "one" if second is None else "tied" if second == best[0] else "second"
                found[name] += 1
        self.assertTrue(min(found.values()) > 15, found)

    def test_rows_in_another_order(self):
        draw = drawing(142)
        for table in exact_tables(draw, 40, 5):
            moved = ordered_rows(table, tuple(draw.sample(range(table[0]), table[0])))
            for unknown in range(table[0]):
                best = shortest(table, unknown)
                self.assertEqual(best, call(self, shortest, moved, unknown))
                self.assertEqual(second_length(table, unknown), call(self, second_length, moved, unknown))
                if best is not None:
                    self.assertEqual(best[0], call(self, length_of, moved, best[1]))
                    self.assertEqual(best, walks_of(moved, unknown, best[0])[0])

    def test_what_is_drawn_is_not_always_silent(self):
        draw = drawing(143)
        self.assertIn(None, [own_rows(exact_table(draw, 3)) for _ in range(50)])

    def test_powers_of_many_digits(self):
        table = (2, ((((0, -BIG, -BIG), (1, BIG, BIG)), None), (((1, 0, 0), (0, BIG, BIG)), (5, 5))))
        self.assertEqual((2 * BIG + 5, (0, 1)), call(self, shortest, table, 0))
        self.assertEqual(5 * BIG + 5, call(self, second_length, table, 0))
        self.assertEqual([(5, (1,))], call(self, walks_of, table, 1, 2 * BIG))
