import itertools
import unittest

import oracle
import reference
from leastpowers.errors import NoOrders
from leastpowers.forms import are_orders
from leastpowers.leastorders import least_at_once, least_telling, may_be_none, order_span, orders_with, some_orders
from leastpowers.tellings import is_shown, orders_of
from samples import call, drawing, drawn_order, drawn_table, failed

ONE = (1, ((((0, 1, 2),), (3, 5)),))
BOTH = (2, ((((0, 0, 0), (1, 0, 0)), (0, 0)),))
# No orders stand in these: a right side is alone in its row, or would be whatever the unknowns are.
NEVER = [
    (1, (((), (0, 0)),)), (1, ((((0, 0, 5),), (0, None)), ((), (-3, 7)))),
    (2, ((((0, 0, 0),), None), (((0, 0, 0),), (0, 0)))),
    (1, ((((0, 0, 0),), (0, 0)), (((0, 0, 0),), (1, 1))))]
# The order of the unknown i is 40 more than that of the unknown ahead of it, 40 for the first one; or less.
UP = (6, ((((0, -20, -20),), (20, 20)),) + tuple([
    (((at, 20, 20), (at + 1, -20, -20)), None) for at in range(5)]))
DOWN = (6, ((((0, 20, 20),), (-20, -20)),) + tuple([
    (((at, -20, -20), (at + 1, 20, 20)), None) for at in range(5)]))


def small_table(draw, many, size=1):
    """A table with so small bounds that orders_up_to can tell all about it."""
    rows = []
    for _ in range(draw.randint(0, 3)):
        sides = []
        for _ in range(draw.randint(0, 3)):
            least = draw.randint(-size, size)
            sides.append((draw.randrange(many), least, draw.choice([None, least, least, draw.randint(least, size)])))
        least = draw.randint(-size, size)
        rows.append((tuple(sides), draw.choice([None, (least, least), (least, draw.randint(least, size)), (0, None)])))
    return (many, tuple(rows))


def reach(table):
    """The greatest size that an end of a span can have."""
    delays = [abs(delay) for _, (_, options) in oracle.placed_waits(table) for _, delay in options]
    return (table[0] + 1) * max(delays, default=0)


def orders_up_to(table, end):
    """All orders that stand, up to an end either way."""
    orders = [None, *range(-end, end + 1)]
    return [tried for tried in itertools.product(orders, repeat=table[0]) if oracle.stands(table, tried)]


def slow_span(found, unknown, far):
    """The span of an unknown in orders that stand, in which it has no end if it goes beyond what is far."""
    orders = [orders[unknown] for orders in found if orders[unknown] is not None]
    if not orders:
        return None
    least, greatest = min(orders), max(orders)
    return (None if least < -far else least, None if greatest > far else greatest)


class LeastOrdersTest(unittest.TestCase):
    def check_stand(self, table, orders, wanted):
        self.assertTrue(are_orders(table, orders))
        self.assertTrue(oracle.stands(table, orders), (table, orders))
        for unknown in wanted:
            self.assertEqual(wanted[unknown], orders[unknown], (table, wanted))

    def check_with(self, table, wanted, there):
        orders = call(self, orders_with, table, wanted)
        self.assertIs(there, orders is not None, (table, wanted))
        if there:
            self.check_stand(table, orders, wanted)

    def check_span(self, table, unknown, span, none):
        """The span of an unknown, and that its order can be each integer in it, and none one step beyond."""
        self.assertEqual(span, call(self, order_span, table, unknown), (table, unknown))
        self.assertIs(none, call(self, may_be_none, table, unknown), (table, unknown))
        self.check_with(table, {unknown: None}, none)
        if span is None:
            for order in [-240, -1, 0, 1, 240]:
                self.check_with(table, {unknown: order}, False)
            return
        least, greatest = span
        for end in [-700 if least is None else least, 700 if greatest is None else greatest]:
            for order in [end - 1, end, end + 1]:
                there = (least is None or least <= order) and (greatest is None or order <= greatest)
                self.check_with(table, {unknown: order}, there)

    def check_least(self, table, spans):
        """Least orders at once, and what shows them, by the spans of all unknowns."""
        orders = call(self, least_at_once, table)
        self.check_stand(table, orders, {})
        for order, span in zip(orders, spans):
            if span is None:
                self.assertIsNone(order)
            elif span[0] is None:
                self.assertIsNotNone(order)
            else:
                self.assertEqual(span[0], order, table)
        telling, answer = call(self, least_telling, table)
        self.assertTrue(reference.told(reference.telling, table, telling))
        self.assertIs(True, is_shown(table, orders, (telling, answer)))
        self.assertEqual(orders, orders_of(answer))

    def test_spans(self):
        for table, spans in [
                (ONE, [((1, 4), False)]), (BOTH, [((None, None), True)] * 2),
                ((1, ((((0, 0, 0),), None),)), [(None, True)]),
                ((0, ()), []), ((0, (((), None), ((), (0, None)))), []), ((1, ()), [((None, None), True)]),
                ((1, ((((0, 1, 2),), (3, None)),)), [((1, None), True)]),
                ((1, ((((0, 1, None),), (3, 5)),)), [((None, 4), False)]),
                ((1, ((((0, 1, None),), (3, None)),)), [((None, None), True)]),
                ((1, ((((0, 0, 0), (0, 0, 0)), (4, 4)),)), [((None, 4), False)]),
                ((1, ((((0, 0, 0), (0, 1, 3)), (4, 4)),)), [((4, 4), False)]),
                ((1, (((), (2, None)), (((0, 1, 1),), (3, 3)), (((0, 5, 5),), (7, 9)))), [((2, 2), False)]),
                ((2, ((((0, 1, 2),), (3, 5)), (((1, 0, 0),), None))), [((1, 4), False), (None, True)]),
                ((2, ((((0, 0, 0), (1, 0, 3)), None), (((0, 0, 0),), (2, 4)))), [((2, 4), False), ((-1, 4), False)]),
                ((2, ((((0, 0, 0), (1, 0, None)), None), (((0, 0, 0),), (2, 4)))),
                    [((2, 4), False), ((None, 4), False)])]:
            for unknown, (span, none) in enumerate(spans):
                self.check_span(table, unknown, span, none)
            self.check_least(table, [span for span, _ in spans])

    def test_orders_far_either_way(self):
        for table, sign in [(UP, 1), (DOWN, -1)]:
            for unknown in range(6):
                order = sign * 40 * (unknown + 1)
                self.check_span(table, unknown, (order, order), False)
            self.check_least(table, [(sign * 40 * at, sign * 40 * at) for at in range(1, 7)])
            self.assertEqual(tuple([sign * 40 * at for at in range(1, 7)]), call(self, some_orders, table))
            self.check_with(table, {5: sign * 240, 0: sign * 40}, True)
            self.check_with(table, {5: sign * 240, 0: sign * 41}, False)

    def test_some_have_a_least_order_and_others_have_none(self):
        # 0 is free, 1 not below 3, 2 tied to 0 alone, 3 always 0, 4 not above 2, 5 as 1.
        rows = ((((0, 0, 0), (2, 0, 0)), None), (((1, 0, 0),), (3, None)), (((3, 1, 1),), None),
            (((4, 0, None),), (2, 2)), (((5, 0, 0), (1, 5, 5)), None))
        spans = [(None, None), (3, None), (None, None), None, (None, 2), (8, None)]
        for unknown, span in enumerate(spans):
            self.check_span((6, rows), unknown, span, unknown != 4)
        self.check_least((6, rows), spans)
        orders = call(self, least_at_once, (6, rows))
        self.assertEqual((3, None, 8), (orders[1], orders[3], orders[5]))

    def test_some_orders(self):
        self.assertIsNone(call(self, some_orders, (0, (((), (0, 0)),))))
        self.assertEqual((), call(self, some_orders, (0, ())))
        self.assertEqual((None,), call(self, some_orders, (1, ((((0, 0, 0),), None),))))
        for table in [ONE, BOTH, UP, DOWN]:
            self.check_stand(table, call(self, some_orders, table), {})

    def test_orders_with(self):
        for table, wanted, there in [
                (ONE, {}, True), (ONE, {0: 3}, True), (ONE, {0: 5}, False), (ONE, {0: 0}, False),
                (ONE, {0: None}, False),
                (BOTH, {}, True), (BOTH, {0: -2}, True), (BOTH, {0: -2, 1: -2}, True), (BOTH, {1: -2, 0: -1}, False),
                (BOTH, {0: None}, True), (BOTH, {0: None, 1: 0}, True), (BOTH, {0: None, 1: 1}, False),
                (BOTH, {0: None, 1: None}, False), (BOTH, {0: 0, 1: 7}, True), (BOTH, {1: 7, 0: 0}, True),
                (BOTH, {0: 0, 1: None}, True), (BOTH, {0: 1, 1: None}, False), ((0, ()), {}, True),
                ((2, ()), {0: -240, 1: None}, True), ((2, ()), {0: None, 1: None}, True)]:
            self.check_with(table, wanted, there)

    def test_no_orders_stand(self):
        for table in NEVER:
            self.assertIsNone(call(self, some_orders, table), table)
            for wanted in [{}, {0: None}, {0: 0}, {0: -240}]:
                self.assertIsNone(call(self, orders_with, table, wanted), table)
            failed(self, NoOrders, least_at_once, table)
            failed(self, NoOrders, least_telling, table)
            for unknown in range(table[0]):
                failed(self, NoOrders, order_span, table, unknown)
                failed(self, NoOrders, may_be_none, table, unknown)
        failed(self, NoOrders, least_at_once, (0, (((), (0, 0)),)))
        failed(self, NoOrders, least_telling, (0, (((), (0, 0)),)))

    def test_small_tables_by_all_their_orders(self):
        draw = drawing(85)
        kinds = {}
        for _ in range(100):
            table = small_table(draw, draw.randint(1, 2))
            # Of what has no end there is more than that within reach: other orders need not be farther off than this.
            found = orders_up_to(table, 2 * reach(table) + 1)
            self.assertIs(found == [], call(self, some_orders, table) is None, table)
            if not found:
                kinds[()] = kinds.get((), 0) + 1
                failed(self, NoOrders, least_at_once, table)
                failed(self, NoOrders, order_span, table, 0)
                failed(self, NoOrders, may_be_none, table, 0)
                continue
            self.check_stand(table, some_orders(table), {})
            spans = [slow_span(found, unknown, reach(table)) for unknown in range(table[0])]
            for unknown, span in enumerate(spans):
                none = any([orders[unknown] is None for orders in found])
                self.check_span(table, unknown, span, none)
                kind = (span if span is None else (span[0] is None, span[1] is None), none)
                kinds[kind] = kinds.get(kind, 0) + 1
            self.check_least(table, spans)
        self.assertTrue(len(kinds) > 5 and min(kinds.values()) > 5, kinds)

    def test_orders_with_by_all_orders(self):
        draw = drawing(86)
        there = {True: 0, False: 0}
        for _ in range(60):
            table = small_table(draw, draw.randint(1, 3))
            found = orders_up_to(table, 4)
            for _ in range(12):
                picked = draw.sample(range(table[0]), draw.randint(1, table[0]))
                wanted = {unknown: drawn_order(draw, 2) for unknown in picked}
                fitting = [orders for orders in found if all([orders[at] == wanted[at] for at in wanted])]
                orders = call(self, orders_with, table, wanted)
                there[orders is not None] += 1
                if fitting:
                    self.assertIsNotNone(orders, (table, wanted))
                if orders is not None:
                    self.check_stand(table, orders, wanted)
                if len(wanted) == table[0]:
                    expected = oracle.stands(table, tuple([wanted[at] for at in range(table[0])]))
                    self.assertIs(expected, orders is not None)
        self.assertTrue(min(there.values()) > 60, there)

    def test_drawn_wide_tables(self):
        draw = drawing(87)
        stand = 0
        for _ in range(150):
            table = drawn_table(draw, draw.randint(3, 6), 8, 8)
            if some_orders(table) is None:
                failed(self, NoOrders, least_at_once, table)
                continue
            stand += 1
            spans = [order_span(table, unknown) for unknown in range(table[0])]
            for unknown, span in enumerate(spans):
                self.check_span(table, unknown, span, may_be_none(table, unknown))
            self.check_least(table, spans)
        self.assertGreater(stand, 50)
