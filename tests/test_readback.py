import itertools
import unittest

import oracle
from leastpowers.errors import NoFit
from leastpowers.forms import is_system
from leastpowers.readback import fit_of, fit_span, is_fit, side_system, wrong_runs
from leastpowers.tables import with_bounds
from leastpowers.tellings import orders_of, telling_for
from samples import ANY, BIG, call, drawing, drawn_order, drawn_table, exchanged, failed

TABLE = (2, ((((0, 0, 5), (1, 0, 5)), (3, 3)),))
RUNS = ((0, 1), (0, 5))


def within(order, least, greatest):
    """Whether an order is within bounds; None is if the greatest one is None."""
    if order is None:
        return greatest is None
    return least <= order and (greatest is None or order <= greatest)


def is_alone(orders):
    """Whether one order is an integer and less than all others."""
    there = sorted([order for order in orders if order is not None])
    return bool(there) and (len(there) == 1 or there[0] < there[1])


def slow_fits_run(sides, right, run, orders):
    """Whether for some order of the right side none is alone in a run, all orders that matter being tried."""
    sums = [None if order is None or run[side[0]] is None else order + run[side[0]]
        for side, order in zip(sides, orders)]
    tried = [None] if right is None else [
        order for order in [None, right[0], right[1], *sums] if within(order, *right)]
    return any([not is_alone([*sums, order]) for order in tried])


def slow_is_fit(table, runs, row, thing):
    """Whether a value of any kind is a fit, by the definition."""
    sides, right = table[1][row]
    if not isinstance(thing, tuple) or len(thing) != len(sides):
        return False
    if any([item is not None and item.__class__ is not int for item in thing]):
        return False
    if not all([within(order, *side[1:]) for order, side in zip(thing, sides)]):
        return False
    return all([slow_fits_run(sides, right, run, thing) for run in runs])


def small_case(draw):
    """A table of a row of few sides with small powers, and runs."""
    many = draw.randint(1, 3)
    sides = []
    for _ in range(draw.randint(0, 3)):
        least = draw.randint(-2, 2)
        sides.append((draw.randrange(many), least, draw.choice([None, least, least + 1, least + 3])))
    least = draw.randint(-2, 2)
    right = draw.choice([None, (least, None), (least, least), (least, least + 2)])
    runs = [tuple([draw.choice([None, -2, -1, 0, 1, 2]) for _ in range(many)]) for _ in range(draw.randint(1, 4))]
    return (many, ((tuple(sides), right),)), tuple(runs)


def slow_fits(table, runs, row, far=14):
    """All fits without an integer above far."""
    spans = [[*([None] if high is None else []), *range(low, far if high is None else high + 1)]
        for _, low, high in table[1][row][0]]
    return [fit for fit in itertools.product(*spans) if slow_is_fit(table, runs, row, fit)]


class ReadbackTest(unittest.TestCase):
    def check_system(self, table, runs, row):
        system = call(self, side_system, table, runs, row)
        self.assertTrue(is_system(system))
        self.assertEqual(len(table[1][row][0]) + 1, system[0])
        return system

    def check_fit(self, table, runs, row, there):
        """Checks what there is of fits, or that there is none."""
        fit = call(self, fit_of, table, runs, row)
        self.assertIs(there, fit is not None, (table, runs))
        if there:
            self.assertTrue(slow_is_fit(table, runs, row, fit), (table, runs, fit))
            self.assertIs(True, call(self, is_fit, table, runs, row, fit))
        else:
            for place in range(len(table[1][row][0])):
                self.assertEqual(row, failed(self, NoFit, fit_span, table, runs, row, place).row)
        system = self.check_system(table, runs, row)
        self.assertIs(there, oracle.least_plan(system)[-1] is not None)

    def test_the_example(self):
        self.assertEqual((1, 5), call(self, fit_span, TABLE, RUNS[:1], 0, 0))
        self.assertEqual([(3, 3), (2, 5)], [call(self, fit_span, TABLE, RUNS, 0, place) for place in (0, 1)])
        self.assertIsNone(call(self, fit_of, TABLE, ((5, 5),), 0))
        for thing, expected in [((3, 2), True), ((3, 1), False), ((3, None), False)]:
            self.assertIs(expected, call(self, is_fit, TABLE, RUNS, 0, thing))
        self.assertEqual([(2,)], call(self, wrong_runs, TABLE, RUNS + ((5, 5),), 0))
        self.assertEqual([], call(self, wrong_runs, TABLE, RUNS, 0))
        self.assertIs(True, call(self, is_fit, (1, (((), (0, None)),)), ((4,),), 0, ()))

    def test_rows_without_sides(self):
        for right, there in [(None, True), ((0, None), True), ((-3, None), True), ((0, 0), False), ((-3, 5), False)]:
            for runs in [((4,),), ((None,),), ((4,), (None,), (4,))]:
                self.check_fit((1, (((), right),)), runs, 0, there)
                self.assertIs(there, call(self, is_fit, (1, (((), right),)), runs, 0, ()))
                self.assertEqual([] if there else [(at,) for at in range(len(runs))],
                    call(self, wrong_runs, (1, (((), right),)), runs, 0))
        self.assertEqual((), call(self, fit_of, (0, (((), None),)), ((), ()), 0))

    def test_a_side_alone_in_its_row(self):
        for side, run, there in [
                ((0, 1, 3), 4, False), ((0, 1, 3), None, True), ((0, 1, None), 4, True), ((0, 1, None), None, True)]:
            self.check_fit((1, (((side,), None),)), ((run,),), 0, there)
        # It is None in all fits to a run in which its unknown is none, and any integer in the others.
        self.assertIsNone(call(self, fit_span, (1, ((((0, 1, None),), None),)), ((4,), (None,)), 0, 0))
        self.assertEqual((1, None), call(self, fit_span, (1, ((((0, 1, None),), None),)), ((None,),), 0, 0))
        self.assertEqual((1, 3), call(self, fit_span, (1, ((((0, 1, 3),), None),)), ((None,),), 0, 0))

    def test_spans_without_end(self):
        table = (3, ((((0, 2, None), (1, 0, 4), (2, -1, None)), (1, 9)),))
        for runs, spans in [
                (((0, 0, 0),), [(2, None), (0, 4), (0, None)]), (((0, None, None),), [(2, 9), (0, 4), (-1, None)]),
                (((None, None, 7),), [(2, None), (0, 4), (-1, 2)]),
                (((None, 1, None),), [(2, None), (0, 4), (-1, None)])]:
            self.assertEqual(spans, [call(self, fit_span, table, runs, 0, place) for place in range(3)])
            self.check_fit(table, runs, 0, True)

    def test_sides_that_are_none_in_all_fits(self):
        table = (2, ((((0, 5, None), (1, 0, 3)), None),))
        self.assertIsNone(call(self, fit_span, (2, ((((0, 5, None),), None),)), ((1, 1),), 0, 0))
        self.check_fit(table, ((0, 0),), 0, False)
        self.check_fit(table, ((None, None),), 0, True)
        self.assertEqual((5, None), call(self, fit_span, table, ((None, None),), 0, 0))

    def test_small_cases_by_all_fits(self):
        draw = drawing(201)
        found = {"none": 0, "always None": 0, "without end": 0, "span": 0}
        for _ in range(400):
            table, runs = small_case(draw)
            fits = slow_fits(table, runs, 0)
            self.check_fit(table, runs, 0, fits != [])
            found["none"] += not fits
            for place in range(len(table[1][0][0]) if fits else 0):
                orders = sorted({fit[place] for fit in fits} - {None})
                expected = None if not orders else (orders[0], None if orders[-1] == 13 else orders[-1])
                self.assertEqual(expected, call(self, fit_span, table, runs, 0, place), (table, runs, place))
                self.assertEqual(orders, [] if not orders else list(range(orders[0], orders[-1] + 1)))
                found["always None" if expected is None else "without end" if expected[1] is None else "span"] += 1
        self.assertTrue(min(found.values()) > 2, found)

    def test_plans_of_the_system_are_fits(self):
        draw = drawing(202)
        fitting = 0
        for _ in range(150):
            table, runs = small_case(draw)
            system = self.check_system(table, runs, 0)
            orders = [None, *range(-4, 7)]
            for plan in itertools.product(orders, repeat=len(table[1][0][0])):
                fits = slow_is_fit(table, runs, 0, plan)
                self.assertIs(fits, oracle.keeps(system, (*plan, 0)), (table, runs, plan))
                fitting += fits
                if draw.random() < 0.05:
                    self.assertIs(fits, call(self, is_fit, table, runs, 0, plan))
        self.assertGreater(fitting, 400)

    def test_any_value_as_a_fit(self):
        empty = (1, (((), (0, None)), ((), (0, 0))))
        alone = (1, ((((0, 0, None),), None),))
        for thing in ANY + list(exchanged((3, 2))) + list(exchanged((3, None))) + list(exchanged((None,))):
            for table, runs in [(TABLE, RUNS), (TABLE, RUNS[:1]), (alone, ((0,),)), (alone, ((None,),))]:
                expected = slow_is_fit(table, runs, 0, thing)
                self.assertIs(expected, call(self, is_fit, table, runs, 0, thing), repr(thing))
            for row in range(2):
                expected = slow_is_fit(empty, ((3,),), row, thing)
                self.assertIs(expected, call(self, is_fit, empty, ((3,),), row, thing), repr(thing))

    def test_wrong_runs_that_hold_one_another(self):
        # The first two runs have no fit together, nor has the third one alone; the last one says nothing.
        table = (2, ((((0, 0, 0), (1, 0, 9)), None),))
        runs = ((3, 0), (5, 0), (0, 3), (None, None))
        self.assertEqual([(0, 1), (2,)], call(self, wrong_runs, table, runs, 0))
        self.assertEqual([(0, 1), (2,)], call(self, wrong_runs, table, runs[:3], 0))
        self.assertEqual([(0, 2), (1,)], call(self, wrong_runs, table, (runs[0], runs[2], runs[1]), 0))
        self.assertEqual([(0, 1), (0, 2)], call(self, wrong_runs, table, (runs[0], runs[1], runs[1]), 0))

    def test_drawn_wrong_runs(self):
        draw = drawing(203)
        several = 0
        for _ in range(80):
            table, runs = small_case(draw)
            runs = (runs + small_case(draw)[1])[:6]
            runs = tuple([(run + (0, 1, None))[:table[0]] for run in runs])
            wrong = [lot for size in range(1, len(runs) + 1) for lot in itertools.combinations(range(len(runs)), size)
                if not slow_fits(table, [runs[at] for at in lot], 0, 10)]
            least = sorted([lot for lot in wrong if not any([set(other) < set(lot) for other in wrong])])
            self.assertEqual(least, call(self, wrong_runs, table, runs, 0), (table, runs))
            several += len(least) > 1
        self.assertGreater(several, 8)

    def test_orders_of_a_telling_are_a_fit_to_its_answer(self):
        draw = drawing(204)
        fitting = 0
        for _ in range(200):
            table = drawn_table(draw, draw.randint(1, 4))
            runs = [tuple([drawn_order(draw) for _ in range(table[0])]) for _ in range(3)]
            for orders in runs:
                shown = telling_for(table, orders)
                for row, (sides, _) in enumerate(table[1] if shown else []):
                    numbers = shown[0][row][0]
                    fit = tuple([number[0][0] if number else None for number in numbers])
                    self.assertIs(True, call(self, is_fit, table, (orders_of(shown[1]),), row, fit))
                    self.check_fit(table, (orders,), row, True)
                    fitting += 1
        self.assertGreater(fitting, 100)

    def test_six_runs_and_eight_sides(self):
        draw = drawing(205)
        found = {True: 0, False: 0}
        for _ in range(40):
            sides = tuple([(draw.randrange(6), least, draw.choice([None, least + 4])) for least in
                [draw.randint(-3, 3) for _ in range(8)]])
            table = (6, ((((), None)), (sides, (draw.randint(0, 4), None))))
            runs = tuple([tuple([drawn_order(draw, 3) for _ in range(6)]) for _ in range(6)])
            there = fit_of(table, runs, 1) is not None
            self.check_fit(table, runs, 1, there)
            wrong = call(self, wrong_runs, table, runs, 1)
            self.assertIs(there, wrong == [])
            for lot in wrong:
                self.assertIsNone(fit_of(table, tuple([runs[at] for at in lot]), 1))
                for left in lot:
                    self.assertIsNotNone(fit_of(table, tuple([runs[at] for at in lot if at != left]), 1))
            for place in range(8 if there else 0):
                self.check_ends(table, runs, 1, place, call(self, fit_span, table, runs, 1, place))
            found[there] += 1
        self.assertTrue(min(found.values()) > 3, found)

    def check_ends(self, table, runs, row, place, span):
        """Whether there are fits with both ends of a span, and with no order of the side beyond."""
        _, least, greatest = table[1][row][0][place]
        low, high = (None, None) if span is None else span
        for order in range(least, least + 30 if greatest is None else greatest + 1):
            expected = span is not None and low <= order and (high is None or order <= high)
            fit = fit_of(with_bounds(table, row, place, order, order), runs, row)
            self.assertIs(expected, fit is not None, (table, runs, place, order))

    def test_orders_of_many_digits(self):
        table = (2, ((((0, 0, None), (1, 0, None)), None),))
        self.assertEqual((BIG, BIG), call(self, fit_span, with_bounds(table, 0, 1, 0, 0), ((0, BIG),), 0, 0))
        self.assertEqual((0, None), call(self, fit_span, table, ((BIG, 0),), 0, 0))
