import unittest

import reference
from leastpowers import forms
from samples import ANY, BIG, call, drawing, drawn_fraction, drawn_number, drawn_quotient
from samples import drawn_system, drawn_table, drawn_telling, drawn_wait, drawn_order, exchanged

TABLE = (2, ((((0, 1, 3), (1, 0, None), (0, 1, 3)), (2, 2)), ((), None), (((1, 4, 4),), (0, None))))
SYSTEM = (3, ((0, ((1, 2), (2, -1))), (1, ()), (2, ((2, 0),)), (1, ())))
HALF = ((0, (1, 2)),)
TELLING = (((((1, (1, 1)), (5, (2, 3))), (), ((3, (-1, 1)),)), ((2, (1, 1)),)), ((), ()), ((((4, (7, 1)),),), ()))


class FormsTest(unittest.TestCase):
    def compare(self, form, check, values, *ahead):
        """Each value, and all that comes from it by one exchange, is judged as by the other words of the tests."""
        for value in ANY + values:
            for thing in [value, *exchanged(value)]:
                self.assertIs(reference.told(check, *ahead, thing), call(self, form, *ahead, thing), repr(thing))

    def accept(self, form, things, *ahead):
        for thing in things:
            self.assertIs(True, call(self, form, *ahead, thing), repr(thing))

    def refuse(self, form, things, *ahead):
        for thing in things:
            self.assertIs(False, call(self, form, *ahead, thing), repr(thing))

    def test_integers(self):
        self.accept(forms.is_integer, [0, 1, -1, BIG])
        self.refuse(forms.is_integer, [True, False, None, "1", (1,), [1], {}])
        self.compare(forms.is_integer, reference.integer, [5])

    def test_orders(self):
        self.accept(forms.is_order, [0, -3, BIG, None])
        self.refuse(forms.is_order, [True, False, "", (), [None], (None,)])
        self.compare(forms.is_order, reference.order, [5])

    def test_fractions(self):
        self.accept(forms.is_fraction, [(0, 1), (1, 1), (-1, 1), (3, 2), (-3, 2), (BIG, BIG + 1)])
        self.refuse(forms.is_fraction, [
            (0, 2), (2, 4), (-2, 4), (1, 0), (0, 0), (1, -1), (-1, -2), (True, 1), (1, True), (False, 1), [1, 1], (1,),
            (1, 1, 1), (None, 1), (1, None), ("1", 1), ((1, 1), 1), (BIG, BIG), (0, -1)])
        self.compare(forms.is_fraction, reference.fraction, [(3, 4), (-6, 5), (1, 1), (2, 2)])

    def test_numbers(self):
        self.accept(forms.is_number, [(), HALF, ((-BIG, (1, 1)), (BIG, (-1, 3)))])
        self.accept(forms.is_number, [((-1, (1, 1)), (0, (1, 1)), (1, (1, 1)))])
        self.refuse(forms.is_number, [
            ((0, (0, 1)),), ((0, (2, 2)),), ((1, (1, 1)), (0, (1, 1))), ((0, (1, 1)), (0, (1, 1))), [], [(0, (1, 1))],
            ([0, (1, 1)],), ((0, [1, 1]),), ((True, (1, 1)),), ((0, (True, 1)),), ((0, (1, 1), 0),), ((0,),),
            (0, (1, 1)), ((None, (1, 1)),), ((0, 1),), (HALF,), ((),)])
        self.compare(forms.is_number, reference.number, [((-1, (3, 2)), (4, (-1, 1)), (5, (1, 7)))])

    def test_quotients(self):
        self.accept(forms.is_quotient, [((), HALF), (HALF, HALF), (((-1, (1, 1)), (2, (1, 1))), ((3, (2, 5)),))])
        self.refuse(forms.is_quotient, [
            (HALF, ()), ((), ()), HALF, (HALF,), (HALF, HALF, HALF), [HALF, HALF], (HALF, list(HALF)), (HALF, (1, 1)),
            (None, HALF), (HALF, None), (True, HALF), ((HALF, HALF), (HALF, HALF))])
        self.compare(forms.is_quotient, reference.quotient, [(((0, (1, 1)),), ((-2, (1, 3)), (1, (2, 1))))])

    def test_bounds(self):
        self.accept(forms.are_bounds, [(0, 0), (-2, 3), (4, None), (-BIG, BIG)])
        self.refuse(forms.are_bounds, [
            (1, 0), (None, 0), (None, None), [0, 0], (0,), (0, 0, 0), (True, 1), (0, True), (False, None), (0, False),
            ("0", 1), (0, "1"), ((0, 0), 1), ()])
        self.compare(forms.are_bounds, reference.bounds, [(2, 5), (-1, -1), (7, None)])

    def test_waits(self):
        self.accept(forms.is_wait, [(0, ()), (2, ((0, 1), (1, -1), (2, BIG))), (1, ((1, 0),))], 3)
        self.refuse(forms.is_wait, [
            (3, ()), (-1, ()), (True, ()), (None, ()), (0, []), [0, ()], (0,), (0, (), ()), (0, ((3, 0),)),
            (0, ((-1, 0),)), (0, ((0, 0), (0, 1))), (0, ((1, 0), (0, 0))), (0, ((0, None),)), (0, ((0, True),)),
            (0, ((False, 0),)),
            (0, ([0, 0],)), (0, ((0, 0, 0),)), (0, ((0,),)), (0, (0, 0)), (0, {}), (0, None)], 3)
        self.refuse(forms.is_wait, [(0, ())], 0)
        for many in range(4):
            self.compare(forms.is_wait, reference.wait, [(1, ((0, 4), (2, -3))), (2, ())], many)

    def test_systems(self):
        self.accept(forms.is_system, [SYSTEM, (0, ()), (3, ()), (BIG, ((BIG - 1, ((0, 0),)),))])
        self.refuse(forms.is_system, [
            (-1, ()), (True, ()), (None, ()), (0, []), [0, ()], (0,), (0, (), ()), (0, ((0, ()),)), (1, ((1, ()),)),
            (1, (0, ())), (1, [(0, ())]), (2, ((0, ((1, 0), (0, 0))),)), (2, ((0, ((1, 0), (1, 0))),)), (1, None)])
        self.compare(forms.is_system, reference.system, [SYSTEM])

    def test_plans(self):
        self.accept(forms.is_plan, [(0, -1, None), (None, None, None), (BIG, -BIG, 0)], SYSTEM)
        self.accept(forms.is_plan, [()], (0, ()))
        self.refuse(forms.is_plan, [(0, 0), (0, 0, 0, 0), [0, 0, 0]], SYSTEM)
        self.refuse(forms.is_plan, [(0, True, 0), (False, 0, 0), (0, "", 0), (0, (0,), 0)], SYSTEM)
        self.compare(forms.is_plan, reference.plan, [(0, None, -2), (0, 0)], SYSTEM)

    def test_a_plan_need_not_be_kept(self):
        self.assertIs(True, forms.is_plan((1, ((0, ()),)), (0,)))

    def test_tables(self):
        self.accept(forms.is_table, [TABLE, (0, ()), (3, ()), (0, (((), None), ((), (0, None))))])
        self.accept(forms.is_table, [(BIG, ((((BIG - 1, 0, 0),), None),))])
        self.refuse(forms.is_table, [
            (-1, ()), (True, ()), (0, []), [0, ()], (0,), (0, (), ()), (None, ()), (1, ((),)), (1, (((),),)),
            (1, (((), (0,)),)), (1, (((), ()),)), (1, (((), (1, 0)),)), (1, (((), (None, None)),)),
            (1, (((), (0, 0), 0),)), (1, (([], None),)), (1, ([(), None],)), (1, ((((1, 0, 0),), None),)),
            (1, ((((-1, 0, 0),), None),)), (1, ((((0, 1, 0),), None),)), (1, ((((0, None, None),), None),)),
            (1, ((((0, 0),), None),)), (1, ((((0, 0, 0, 0),), None),)), (1, (((0, 0, 0), None),)),
            (1, ((([0, 0, 0],), None),)), (1, ((((False, 0, 0),), None),)), (1, ((((0, False, 0),), None),)),
            (1, ((((0, 0, False),), None),)), (1, (((), False),)), (1, (((), [0, 0]),))])
        self.compare(forms.is_table, reference.table, [TABLE])

    def test_tellings(self):
        self.accept(forms.is_telling, [TELLING], TABLE)
        self.accept(forms.is_telling, [()], (0, ()))
        self.accept(forms.is_telling, [(((), ()), ((), ()))], (0, (((), None), ((), (0, None)))))
        self.accept(forms.is_telling, [(((), ((9, (1, 1)),)),)], (0, (((), (0, None)),)))
        least = (0, (((), (0, None)),))
        self.refuse(forms.is_telling, [(), (((), ((-1, (1, 1)),)),), (((), None),), (((), 0),), ((), ())], least)
        self.refuse(forms.is_telling, [(((), HALF),), (((), None),), (((), []),), (((), False),)], (0, (((), None),)))
        self.compare(forms.is_telling, reference.telling, [TELLING], TABLE)

    def test_a_telling_is_within_its_bounds(self):
        for least, greatest, numbers in [(1, 3, [1, 2, 3]), (2, 2, [2]), (2, None, [2, 3, 4, None])]:
            fit = []
            for order in [None, 0, 1, 2, 3, 4]:
                number = () if order is None else ((order, (5, 3)), (9, (1, 1)))
                side = forms.is_telling((1, ((((0, least, greatest),), None),)), (((number,), ()),))
                right = forms.is_telling((1, (((), (least, greatest)),)), (((), number),))
                self.assertIs(side, right)
                fit += [order] if side else []
            self.assertEqual(sorted(numbers, key=str), sorted(fit, key=str))

    def test_orders_of_a_table(self):
        self.accept(forms.are_orders, [(0, None), (None, None), (-BIG, BIG)], TABLE)
        self.accept(forms.are_orders, [()], (0, (((), (0, 0)),)))
        self.refuse(forms.are_orders, [(0,), (0, 0, 0), [0, 0], (True, 0), (0, False), (0, "0"), ((0, 0),)], TABLE)
        self.compare(forms.are_orders, reference.plan, [(0, None), (3, -3), (1,)], TABLE)

    def test_values_that_are_drawn(self):
        draw = drawing(12)
        for _ in range(40):
            many = draw.randint(1, 3)
            table, system = drawn_table(draw, many, 2, 2), drawn_system(draw, many, 2)
            plan = tuple([drawn_order(draw) for _ in range(many)])
            self.accept(forms.is_fraction, [drawn_fraction(draw)])
            self.accept(forms.is_number, [drawn_number(draw)])
            self.accept(forms.is_quotient, [drawn_quotient(draw)])
            self.accept(forms.is_wait, [drawn_wait(draw, many)], many)
            self.accept(forms.is_system, [system])
            self.accept(forms.is_table, [table])
            self.accept(forms.is_telling, [drawn_telling(draw, table)], table)
            self.accept(forms.is_plan, [plan], system)
            self.accept(forms.are_orders, [plan], table)
            for thing in exchanged(table):
                self.assertIs(reference.told(reference.table, thing), forms.is_table(thing), repr(thing))
            for thing in exchanged(system):
                self.assertIs(reference.told(reference.system, thing), forms.is_system(thing), repr(thing))
            telling = drawn_telling(draw, table)
            for thing in exchanged(telling):
                expected = reference.told(reference.telling, table, thing)
                self.assertIs(expected, forms.is_telling(table, thing), repr(thing))
