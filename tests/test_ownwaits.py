import unittest

import oracle
from leastpowers.leastplan import barred_events, least_plan
from leastpowers.ownwaits import decision_of, is_decision, is_own_waits, own_waits, weights_for
from samples import ANY, BIG, call, drawing, drawn_system, exchanged, plain_own

SYSTEM = (3, ((0, ((1, 2),)), (1, ((0, -1), (2, 0))), (2, ((2, 1),))))
OWN = {0: (0, 0), 1: (1, -4), 2: (2, 0)}
OPEN = (3, SYSTEM[1][:2])


def is_plain_own(system, thing):
    """Whether a value of any kind is own waits: first that all of it is of the right kind, then by the definition."""
    return plain_own(system, thing) and oracle.are_own_waits(system, thing)


class OwnWaitsTest(unittest.TestCase):
    def test_own_waits_of_the_barred_events(self):
        draw = drawing(26)
        several = 0
        for _ in range(1200):
            size, most = draw.choice([0, 1, 3, 10, 60]), draw.choice([1, 2, 3, 6])
            system = drawn_system(draw, draw.randint(0, 10), draw.choice([3, 8, 20, 40]), size, most)
            own = call(self, own_waits, system)
            self.assertEqual(list(call(self, barred_events, system)), list(own))
            self.assertTrue(is_plain_own(system, own), system)
            self.assertIs(True, call(self, is_own_waits, system, own))
            several += len(own) > 2
        self.assertGreater(several, 150)

    def test_none_are_barred(self):
        self.assertEqual({}, call(self, own_waits, OPEN))
        self.assertEqual({}, call(self, own_waits, (0, ())))
        self.assertEqual({}, call(self, own_waits, (2, ((0, ((0, 0),)), (1, ((0, -1),))))))

    def test_waits_without_options(self):
        own = call(self, own_waits, (2, ((0, ((1, -9),)), (1, ()))))
        self.assertEqual([(0, 0), (1, 1)], [(event, own[event][0]) for event in own])

    def test_rings_of_own_waits(self):
        for last, barred in [(-3, [0, 1, 2]), (-4, []), (-5, [])]:
            system = (3, ((0, ((2, 2),)), (1, ((0, 2),)), (2, ((1, last),))))
            self.assertEqual(barred, list(call(self, own_waits, system)))

    def test_delays_of_many_digits(self):
        system = (2, ((0, ((1, BIG),)), (1, ((0, 1 - BIG),))))
        own = call(self, own_waits, system)
        self.assertEqual([0, 1], list(own))
        self.assertIs(True, call(self, is_own_waits, system, own))
        self.assertEqual({}, call(self, own_waits, (2, ((0, ((1, BIG),)), (1, ((0, -BIG),))))))

    def test_what_own_waits_are(self):
        for thing in [
                {}, OWN, {2: (2, 5)}, {2: (2, -BIG)}, {2: (2, 0), 1: (1, -4), 0: (0, 0)},
                {0: (0, 1), 1: (1, -4), 2: (2, 9)}]:
            self.assertIs(True, call(self, is_own_waits, SYSTEM, thing), thing)

    def test_what_own_waits_are_not(self):
        for thing in [
                {0: (0, 0)}, {1: (1, 0)}, {1: (1, -4), 2: (2, 0)}, {0: (0, 2), 1: (1, -4), 2: (2, 0)},
                {0: (0, 0), 1: (1, -3), 2: (2, 0)}, {0: (0, 0), 1: (1, -4), 2: (2, -4)}, {2: (1, 0)}, {2: (3, 0)},
                {2: (-1, 0)}, {3: (2, 0)}, {-1: (2, 0)}, {2: [2, 0]}, {2: (2,)}, {2: (2, 0, 0)}, {2: 2}, {2: None},
                {2: (2, None)}, {2: (2, True)}, {2: (None, 0)}, {"2": (2, 0)},
                {(2,): (2, 0)}, {None: (2, 0)}, [(2, (2, 0))], ((2, (2, 0)),), [], (), None, True, False, 0, "", "{}"]:
            self.assertIs(False, call(self, is_own_waits, SYSTEM, thing), thing)

    def test_truths_are_no_indexes_events_and_weights(self):
        system = (2, ((0, ()), (1, ())))
        self.assertIs(True, call(self, is_own_waits, system, {0: (0, 0), 1: (1, 1)}))
        for thing in [{False: (0, 0)}, {True: (1, 0)}, {1: (True, 0)}, {0: (False, 0)}, {0: (0, True)},
            {0: (0, False)}]:
            self.assertIs(False, call(self, is_own_waits, system, thing), thing)

    def test_weights_are_just_less(self):
        system = (2, ((0, ((1, 3),)), (1, ())))
        for weight, expected in [(16, False), (15, False), (14, True), (13, True)]:
            self.assertIs(expected, call(self, is_own_waits, system, {0: (0, weight), 1: (1, 9)}), weight)

    def test_any_value(self):
        for system in [SYSTEM, (0, ()), (1, ((0, ()),)), (2, ((0, ()), (1, ())))]:
            for thing in ANY + list(exchanged(OWN)) + list(exchanged({0: (0, 0), 1: (1, 1)})):
                self.assertIs(is_plain_own(system, thing), call(self, is_own_waits, system, thing), repr(thing))

    def test_weights_for(self):
        self.assertIsNone(call(self, weights_for, OPEN, {0: 0, 1: 1}))
        self.assertEqual({}, call(self, weights_for, OPEN, {}))
        self.assertIsNone(call(self, weights_for, SYSTEM, {0: 0}))
        self.assertIsNone(call(self, weights_for, SYSTEM, {1: 1, 2: 2}))
        own = call(self, weights_for, SYSTEM, {2: 2, 0: 0, 1: 1})
        self.assertEqual([(0, 0), (1, 1), (2, 2)], [(event, own[event][0]) for event in own])
        self.assertTrue(oracle.are_own_waits(SYSTEM, own))
        self.assertEqual([(2, 2)],
            [(event, item[0]) for event, item in call(self, weights_for, SYSTEM, {2: 2}).items()])

    def test_weights_for_rings_above_at_and_below_0(self):
        for many in [1, 2, 3, 5, 10]:
            for last, there in [(1, True), (0, False), (-1, False), (-60, False)]:
                ring = [(event, (((event + 1) % many, last if event == 0 else 0),)) for event in range(many)]
                system = (many, tuple(ring))
                own = call(self, weights_for, system, {event: event for event in reversed(range(many))})
                self.assertIs(there, own is not None, (many, last))
                if there:
                    self.assertEqual(list(range(many)), list(own))
                    self.assertTrue(oracle.are_own_waits(system, own))

    def test_weights_for_drawn_waits(self):
        draw = drawing(27)
        found = {True: 0, False: 0}
        for _ in range(2500):
            system = drawn_system(draw, draw.randint(1, 6), 10, draw.choice([1, 3, 60]), 2)
            chosen = {}
            for index in draw.sample(range(len(system[1])), len(system[1])):
                if draw.random() < 0.9:
                    chosen[system[1][index][0]] = index
            others = [other for index in chosen.values() for other, _ in system[1][index][1]]
            closed = set(others) <= set(chosen)
            expected = closed and not oracle.has_low_ring(system, chosen)
            own = call(self, weights_for, system, chosen)
            self.assertIs(expected, own is not None, (system, chosen))
            if own is not None:
                self.assertEqual(sorted(chosen.items()), [(event, item[0]) for event, item in own.items()])
                self.assertTrue(is_plain_own(system, own))
            if closed:
                found[expected] += 1
        self.assertTrue(min(found.values()) > 100, found)

    def test_decisions(self):
        draw = drawing(28)
        for _ in range(300):
            system = drawn_system(draw, draw.randint(1, 6), 10)
            plan, own = least_plan(system), own_waits(system)
            for event in range(system[0]):
                decision = call(self, decision_of, system, event)
                expected = ("own", own) if event in own else ("plan", plan)
                self.assertEqual(expected, decision)
                self.assertIs(True, call(self, is_decision, system, event, decision))

    def test_what_decisions_are(self):
        self.assertIs(True, call(self, is_decision, SYSTEM, 1, ("own", OWN)))
        self.assertIs(True, call(self, is_decision, SYSTEM, 2, ("own", {2: (2, 0)})))
        self.assertIs(True, call(self, is_decision, OPEN, 0, ("plan", (2, 0, 0))))
        self.assertIs(True, call(self, is_decision, OPEN, 0, ("plan", (-5, -7, -8))))
        self.assertIs(True, call(self, is_decision, OPEN, 2, ("plan", (None, None, 0))))

    def test_what_decisions_are_not(self):
        for system, event, thing in [
                (SYSTEM, 1, ("own", {2: (2, 0)})), (SYSTEM, 1, ("own", {})), (SYSTEM, 1, ("plan", OWN)),
                (SYSTEM, 1, ["own", OWN]), (SYSTEM, 1, ("own", OWN, OWN)), (SYSTEM, 1, ("own",)),
                (SYSTEM, 1, ("Own", OWN)), (SYSTEM, 1, (None, OWN)), (SYSTEM, 1, OWN), (SYSTEM, 1, (OWN, "own")),
                (SYSTEM, 0, ("plan", (2, 0, 0))), (SYSTEM, 0, ("plan", (None, None, None))),
                (OPEN, 0, ("plan", (None, 0, 0))), (OPEN, 0, ("plan", (1, 0, 0))), (OPEN, 0, ("plan", [2, 0, 0])),
                (OPEN, 0, ("plan", (2, 0))), (OPEN, 0, ("plan", (2, 0, False))), (OPEN, 0, ("own", (2, 0, 0))),
                (OPEN, 0, (("plan",), (2, 0, 0))), (OPEN, 0, ("plan", (2, 0, 0), None)), (OPEN, 0, (2, 0, 0))]:
            self.assertIs(False, call(self, is_decision, system, event, thing), (event, thing))

    def test_any_value_as_a_decision(self):
        for thing in ANY + list(exchanged(("own", OWN))) + list(exchanged(("plan", (2, 0, 0)))):
            for event in range(3):
                right = isinstance(thing, tuple) and len(thing) == 2 and thing[0].__class__ is str
                own = right and thing[0] == "own" and is_plain_own(SYSTEM, thing[1]) and event in thing[1]
                self.assertIs(own, call(self, is_decision, SYSTEM, event, thing), repr(thing))
                plan = right and thing[0] == "plan" and isinstance(thing[1], tuple) and len(thing[1]) == 3
                plan = plan and all([order is None or order.__class__ is int for order in thing[1]])
                plan = plan and oracle.keeps(OPEN, thing[1]) and thing[1][event] is not None
                self.assertIs(plan, call(self, is_decision, OPEN, event, thing), repr(thing))
