"""What the document guarantees over the whole program, by inputs that go through several of its files."""

import itertools
import unittest
from fractions import Fraction

import oracle
from leastpowers.counted import polynomial_of, roots_above, tones_above
from leastpowers.desk import Desk
from leastpowers.determinants import answer_of, determinant_of, determinant_span, lead_of
from leastpowers.errors import CanBe, NoOrders, NotSilent, NotSquare, NotTold
from leastpowers.following import contrary, counter_plan, follow_paper, follows, is_follow_paper
from leastpowers.forms import are_orders, is_plan, is_telling
from leastpowers.formulas import formula_of, parting_tellings, sure_by, told_orders
from leastpowers.gaps import gap_span, plan_with_gap, with_gap
from leastpowers.leastorders import least_at_once, least_telling, may_be_none, order_span, orders_with, some_orders
from leastpowers.leastplan import barred_events, least_plan
from leastpowers.live import Live
from leastpowers.margins import greatest_margin, least_margin
from leastpowers.numbers import leading_of, least_items, order_of, term
from leastpowers.orderpapers import is_greatest_paper, is_least_paper, greatest_paper, least_paper
from leastpowers.ownrows import is_own, own_rows
from leastpowers.ownwaits import decision_of, is_decision, is_own_waits, own_waits
from leastpowers.plans import keeps, shifted
from leastpowers.readback import is_fit
from leastpowers.reader import read_system, read_table
from leastpowers.realnumbers import is_real, off_by, reach_of, real_answer, small_of, telling_at, worth_of
from leastpowers.sametables import spare_table, stand_alike
from leastpowers.silence import barred_unknowns, is_silent, loud_orders
from leastpowers.standing import lonely_side, stands
from leastpowers.tables import with_bounds, without_rights
from leastpowers.tablewaits import system_of
from leastpowers.tellings import is_answer, is_shown, orders_of, telling_for
from leastpowers.texts import show_system, show_table
from leastpowers.tonegaps import gap_of
from leastpowers.tones import no_tone, table_at, tone_orders
from leastpowers.walks import shortest, walks_of
from samples import drawing, drawn_order, drawn_system, drawn_table, drawn_telling, drawn_wait, failed
from test_determinants import exact_tables
from test_silence import square_table
from test_tones import drawn_s, drawn_square


class PlansTest(unittest.TestCase):
    def test_each_event_has_a_plan_or_own_waits(self):
        draw = drawing(241)
        found = {"plan": 0, "own": 0}
        for _ in range(150):
            system = read_system(show_system(drawn_system(draw, draw.randint(1, 6), 8)))
            plan, own = least_plan(system), own_waits(system)
            self.assertEqual(oracle.least_plan(system), plan)
            self.assertTrue(keeps(system, plan) and is_own_waits(system, own))
            self.assertEqual(list(barred_events(system)), list(own))
            delays = [delay for _, options in system[1] for _, delay in options]
            most = system[0] * max([0, *delays])
            for event, order in enumerate(plan):
                self.assertIs(order is None, event in own)
                self.assertTrue(order is None or 0 <= order <= most)
                word, paper = decision_of(system, event)
                self.assertIs(True, is_decision(system, event, (word, paper)))
                self.assertIs(False, is_decision(system, event, ("plan" if word == "own" else "own", paper)))
                found[word] += 1
        self.assertTrue(min(found.values()) > 60, found)

    def test_plans_are_closed(self):
        draw = drawing(242)
        for _ in range(80):
            system = drawn_system(draw, draw.randint(1, 3), 4, 2)
            kept = oracle.plans(system, -1, 2)
            for one, other in [draw.choices(kept, k=2) for _ in range(10)]:
                self.assertTrue(keeps(system, least_items(one, other)))
                self.assertTrue(keeps(system, shifted(one, draw.randint(-9, 9))))

    def test_gaps_are_all_integers_of_a_span(self):
        draw = drawing(243)
        ends = 0
        for _ in range(100):
            system = drawn_system(draw, 3, 5, 3)
            barred = barred_events(system)
            if 0 in barred or 1 in barred:
                continue
            least, greatest = gap_span(system, 0, 1)
            for gap in range(-12, 13):
                within = (least is None or least <= gap) and (greatest is None or gap <= greatest)
                plan = plan_with_gap(system, 0, 1, gap)
                self.assertIs(within, plan is not None)
                if within:
                    self.assertTrue(is_plan(system, plan) and keeps(system, plan) and plan[1] - plan[0] == gap)
                late = (greatest is None or gap <= greatest)
                self.assertIs(late, 1 not in barred_events(with_gap(system, 0, 1, gap)))
            ends += least is not None or greatest is not None
        self.assertGreater(ends, 15)

    def test_waits_that_follow_are_duties(self):
        draw = drawing(244)
        found = {True: 0, False: 0}
        for _ in range(150):
            system = drawn_system(draw, draw.randint(2, 5), 8)
            wait = drawn_wait(draw, system[0])
            there = follows(system, wait)
            self.assertIs(there, wait[0] in barred_events(contrary(system, wait)))
            self.assertIs(there, counter_plan(system, wait) is None)
            self.assertIs(there, is_follow_paper(system, wait, follow_paper(system, wait)))
            if len(wait[1]) == 1 and wait[1][0][0] != wait[0]:
                desk, live = Desk(show_system(system)), Live(system)
                other, delay = wait[1][0]
                line = f"owe ahead {other} {wait[0]} {delay}"
                self.assertEqual(["done" if there else "refused Broken"], desk.execute(line))
                sign = "-" if delay < 0 else "+"
                follow = f"follows {wait[0]} {other}{sign}{abs(delay)}"
                self.assertEqual(["yes" if there else "no"], desk.execute(follow))
                if there:
                    live.owe(("ahead", other, wait[0], delay))
                self.assertTrue(desk.live() == live)
            found[there] += 1
        self.assertTrue(min(found.values()) > 20, found)


class TablesTest(unittest.TestCase):
    def test_orders_that_stand_are_plans_that_tellings_show(self):
        draw = drawing(245)
        found = {True: 0, False: 0}
        for _ in range(200):
            table = read_table(show_table(drawn_table(draw, draw.randint(1, 4))))
            system = system_of(table)
            orders = tuple([drawn_order(draw) for _ in range(table[0])])
            there = stands(table, orders)
            self.assertIs(there, keeps(system, orders + (0,)))
            self.assertIs(there, lonely_side(table, orders) is None)
            self.assertIs(there, oracle.stands(table, orders))
            self.assertIs(there, is_shown(table, orders, telling_for(table, orders)))
            self.assertIs(there, orders_with(table, dict(enumerate(orders))) == orders)
            some = some_orders(table)
            self.assertIs(some is None, table[0] in own_waits(system))
            if there:
                telling, answer = telling_for(table, orders)
                self.assertTrue(oracle.is_answer(table, telling, answer) and orders_of(answer) == orders)
                both = least_items(orders, some)
                self.assertTrue(stands(table, both) and is_shown(table, both, telling_for(table, both)))
                for row, (numbers, _) in enumerate(telling):
                    fit = tuple([order_of(number) for number in numbers])
                    self.assertTrue(is_fit(table, (orders,), row, fit))
            found[there] += 1
        self.assertTrue(min(found.values()) > 30, found)

    def test_least_orders_have_papers_and_one_telling(self):
        draw = drawing(246)
        papers = 0
        for _ in range(120):
            table = drawn_table(draw, draw.randint(1, 4))
            if some_orders(table) is None:
                for function in [least_at_once, least_telling]:
                    failed(self, NoOrders, function, table)
                continue
            orders = least_at_once(table)
            self.assertTrue(are_orders(table, orders) and stands(table, orders))
            self.assertTrue(is_shown(table, orders, least_telling(table)))
            for unknown in range(table[0]):
                span = order_span(table, unknown)
                self.assertIs(span is None, orders[unknown] is None)
                low, high = (None, None) if span is None else span
                if low is not None:
                    self.assertEqual(low, orders[unknown])
                    self.assertTrue(is_least_paper(table, unknown, low, least_paper(table, unknown, low)))
                    self.assertIsNone(least_paper(table, unknown, low + 1))
                    papers += 1
                if high is not None:
                    self.assertTrue(is_greatest_paper(table, unknown, high, greatest_paper(table, unknown, high)))
                    self.assertIsNone(greatest_paper(table, unknown, high - 1))
                    papers += 1
        self.assertGreater(papers, 50)

    def test_tables_without_a_row_that_is_needless_say_the_same(self):
        draw = drawing(247)
        for _ in range(40):
            table = drawn_table(draw, draw.randint(1, 4))
            spare = spare_table(table)
            self.assertTrue(stand_alike(table, spare))
            self.assertEqual(some_orders(table) is None, some_orders(spare) is None)
            for unknown in range(table[0] if some_orders(table) else 0):
                self.assertEqual(order_span(table, unknown), order_span(spare, unknown))
                self.assertEqual(may_be_none(table, unknown), may_be_none(spare, unknown))


class SilentTest(unittest.TestCase):
    def test_own_rows_carry_the_determinant(self):
        draw = drawing(248)
        silent = 0
        for _ in range(150):
            table = read_table(show_table(square_table(draw, draw.randint(1, 4))))
            if not is_silent(table):
                for function in [determinant_span, told_orders]:
                    error = failed(self, NotSilent, function, table)
                    self.assertTrue(stands(without_rights(table), error.orders))
                    self.assertTrue(is_shown(without_rights(table), error.orders, telling_for(without_rights(table),
                        error.orders)))
                continue
            silent += 1
            self.assertEqual(tuple(range(table[0])), barred_unknowns(table))
            own = own_rows(table)
            self.assertTrue(is_own(table, own) and sorted(own[0]) == list(range(table[0])))
            least, greatest = determinant_span(table)
            for telling in [drawn_telling(draw, table) for _ in range(3)]:
                determinant = determinant_of(table, telling)
                self.assertEqual((order_of(determinant), leading_of(determinant)), lead_of(table, telling))
                self.assertTrue(least <= order_of(determinant) <= greatest)
                answer = answer_of(table, telling)
                self.assertTrue(is_answer(table, telling, answer))
                self.assertTrue(stands(table, orders_of(answer)))
                self.assertTrue(is_shown(table, orders_of(answer), (telling, answer)))
                for row, (numbers, _) in enumerate(telling):
                    fit = tuple([order_of(number) for number in numbers])
                    self.assertTrue(is_fit(table, (orders_of(answer),), row, fit))
        self.assertGreater(silent, 40)

    def test_told_orders_are_spans(self):
        draw = drawing(249)
        found = {"told": 0, "none": 0, "tied": 0}
        for table in exact_tables(draw, 100, 5):
            for unknown, told in enumerate(told_orders(table)):
                span, none = order_span(table, unknown), may_be_none(table, unknown)
                if told == (None,):
                    self.assertEqual((None, True), (span, none))
                elif told:
                    self.assertEqual(((told[0], told[0]), False), (span, none))
                else:
                    self.assertEqual(shortest(table, unknown)[0], span[0])
                    self.assertNotEqual((span[0], False), (span[1], none))
                    tellings = parting_tellings(table, unknown)
                    orders = [orders_of(answer_of(table, telling)) for telling in tellings]
                    self.assertTrue(all([stands(table, one) for one in orders]))
                    self.assertNotEqual(orders[0][unknown], orders[1][unknown])
                found["tied" if told == () else "none" if told == (None,) else "told"] += 1
        self.assertTrue(min(found.values()) > 12, found)

    def test_margins_are_where_tables_cease_to_be_silent(self):
        draw = drawing(250)
        ends = 0
        for table in exact_tables(draw, 40, 4):
            for row, (sides, _) in enumerate(table[1]):
                for place, (_, least, greatest) in enumerate(sides):
                    low, high = least_margin(table, row, place), greatest_margin(table, row, place)
                    for wide, further in [
                            ((least, high), (least, None if high is None else high + 1)),
                            ((low, greatest), (None if low is None else low - 1, greatest))]:
                        if None not in wide:
                            self.assertTrue(is_silent(with_bounds(table, row, place, *wide)))
                            self.assertIsNotNone(own_rows(with_bounds(table, row, place, *wide)))
                            loud = loud_orders(with_bounds(table, row, place, *further))
                            self.assertTrue(stands(without_rights(with_bounds(table, row, place, *further)), loud))
                            ends += 1
        self.assertGreater(ends, 60)

    def test_tones_are_where_tables_are_not_silent(self):
        draw = drawing(251)
        found = {True: 0, False: 0}
        for _ in range(120):
            table, s = drawn_square(draw, draw.randint(1, 4)), drawn_s(draw)
            at = table_at(table, s)
            found[is_silent(at)] += 1
            if not is_silent(at):
                self.assertEqual(loud_orders(at), tone_orders(table, s))
                for function in [tones_above, gap_of]:
                    self.assertEqual(tone_orders(table, s), failed(self, CanBe, function, table, s).orders)
                continue
            self.assertTrue(is_own(at, no_tone(table, s)))
            for telling in [drawn_telling(draw, table) for _ in range(3)]:
                self.assertEqual(tones_above(table, s), roots_above(polynomial_of(table, telling), s))
            for end in gap_of(table, s):
                self.assertTrue(end is None or not is_silent(table_at(table, end)))
        self.assertTrue(min(found.values()) > 20, found)

    def test_refusals_come_in_their_order(self):
        loud, unlike = (((0, 0, 0), (1, 0, 0)), (1, 2)), (((0, 0, 1), (0, 0, 0)), None)
        for function, *args in [(told_orders,), (walks_of, 0, 1), (formula_of, 0), (sure_by, 0), (shortest, 0)]:
            failed(self, NotSquare, function, (2, (loud,)), *args)
            failed(self, NotSquare, function, (2, (loud, unlike, loud)), *args)
            failed(self, NotSilent, function, (2, (loud, unlike)), *args)
        failed(self, NotSquare, tones_above, (2, (loud,)), (0, 1))
        failed(self, CanBe, tones_above, (2, (loud, unlike)), (0, 1))


class RealTest(unittest.TestCase):
    def test_tellings_become_real_ones(self):
        draw = drawing(252)
        checked = 0
        for table in exact_tables(draw, 60, 4):
            size = 3
            small = draw.choice([small_of(table, size), (1, 1000)])
            e = (Fraction(*small) ** table[0]).as_integer_ratio()
            # Each number is at most 3 times as great, or as little, as the power that its order tells.
            factors = [(1, 3), (1, 1), (-2, 1), (3, 1), (-3, 2)]
            telling = tuple([(tuple([term(least, draw.choice(factors)) for _, least, _ in sides]),
                () if right is None else term(right[0], draw.choice(factors))) for sides, right in table[1]])
            self.assertTrue(is_telling(table, telling))
            numbers = telling_at(telling, e)
            self.assertTrue(is_real(table, size, small, numbers))
            found = real_answer(table, numbers)
            reach = reach_of(table, size, small)
            for unknown, (num, den) in enumerate(answer_of(table, telling)):
                worth = Fraction(*worth_of(num, e)) / Fraction(*worth_of(den, e))
                self.assertEqual(worth, Fraction(*found[unknown]))
                self.assertLessEqual(abs(worth), Fraction(*reach[unknown]))
                if told_orders(table)[unknown] in [(), (None,)]:
                    failed(self, NotTold, off_by, table, size, small, unknown)
                    continue
                sign, above, below = formula_of(table, unknown)
                along = Fraction(sign)
                for row, place in above:
                    along *= Fraction(*(*numbers[row][0], numbers[row][1])[place])
                for row, place in below:
                    along /= Fraction(*(*numbers[row][0], numbers[row][1])[place])
                self.assertLessEqual(abs(worth / along - 1), Fraction(*off_by(table, size, small, unknown)))
                checked += 1
        self.assertGreater(checked, 30)

    def test_each_real_telling_of_a_silent_table_has_one_answer(self):
        # All signs and both ends of all sizes of a table with a ring, with e as great as it may be.
        table = (2, ((((0, 0, 0), (1, 1, 1)), (0, 0)), (((0, 1, 1), (1, 0, 0)), (0, 0))))
        size, small = 2, small_of((2, ((((0, 0, 0), (1, 0, 0)), None),) * 2), 2)
        e = Fraction(*small) ** 2
        reach = [Fraction(*item) for item in reach_of(table, size, small)]
        for signs in itertools.product([-1, 1], repeat=4):
            for ends in itertools.product([Fraction(1, 2), 2], repeat=4):
                own, side, back, other = [(sign * end).as_integer_ratio() for sign, end in zip(signs, [
                    ends[0], ends[1] * e, ends[2] * e, ends[3]])]
                numbers = (((own, side), (2, 1)), ((back, other), (-2, 1)))
                self.assertTrue(is_real(table, size, small, numbers))
                for item, most in zip(real_answer(table, numbers), reach):
                    self.assertLessEqual(abs(Fraction(*item)), most)
