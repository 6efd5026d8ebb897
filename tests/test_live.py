import unittest

import oracle
from leastpowers.errors import Broken, NoDuty, NoIndex, Nothing, TooMany, Wrong
from leastpowers.forms import is_system, is_wait
from leastpowers.leastplan import barred_events, least_plan
from leastpowers.live import Live
from samples import ANY, BIG, call, drawing, drawn_system, drawn_wait, exchanged, failed, spoil

SYSTEM = (3, ((1, ((0, 2),)), (2, ((0, 1), (1, 0)))))


def state(live):
    """All that a Live tells, with the place of each kind of it."""
    return repr([live.system(), live.duties(), live.plan()])


def slow_is_duty(system, thing):
    """Whether a value of any kind is a duty, by the definition."""
    if not isinstance(thing, tuple) or not thing or thing[0].__class__ is not str:
        return False
    events = range(system[0])
    if any([item.__class__ is not int for item in thing[1:]]):
        return False
    if thing[0] == "can":
        return len(thing) == 2 and thing[1] in events
    return thing[0] == "ahead" and len(thing) == 4 and thing[1] in events and thing[2] in events \
        and thing[1] != thing[2]


def slow_is_kept(system, duty):
    """Whether a duty is kept, by the greatest gap that the plans of the system let: step by step below other."""
    plan = oracle.least_plan(system)
    if duty[0] == "can":
        return plan[duty[1]] is not None
    _, one, other, gap = duty
    # other is ahead of one + gap in some plan exactly if it happens although one waits for it so long.
    many, waits = system
    return oracle.least_plan((many, waits + ((one, ((other, 1 - gap),)),)))[other] is None


class Model:
    """A Live once more: each state is kept as a whole, and those that come are left out behind a deed."""

    def __init__(self, system):
        self.states, self.at = [(system, ())], 0

    def deed(self, name, thing):
        """Does what a method of a Live does; returns the answer, or the error with its field."""
        system, duties = self.states[self.at]
        many, waits = system
        answer = None
        if name == "back" or name == "again":
            at = self.at + (1 if name == "again" else -1)
            if at not in range(len(self.states)):
                return (Nothing, None)
            self.at = at
            return None
        if name == "put_wait":
            if len(waits) >= 40:
                return (TooMany, 40)
            system = (many, waits + (thing,))
        elif name == "drop_wait":
            if thing not in range(len(waits)):
                return (NoIndex, thing)
            answer, system = waits[thing], (many, waits[:thing] + waits[thing + 1:])
        elif name == "free":
            if thing not in range(len(duties)):
                return (NoIndex, thing)
            answer, duties = duties[thing], duties[:thing] + duties[thing + 1:]
        else:
            if not slow_is_duty(system, thing):
                return (NoDuty, thing)
            duties += (thing,)
        broken = [duty for duty in duties if not slow_is_kept(system, duty)]
        if broken:
            return (Broken, broken[0])
        self.states = [*self.states[:self.at + 1], (system, duties)]
        self.at += 1
        return answer


def drawn_deed(draw, system, duties):
    name = draw.choice(["put_wait", "put_wait", "drop_wait", "owe", "owe", "free", "back", "back", "again"])
    many, waits = system
    if name == "put_wait":
        return (name, drawn_wait(draw, many, 3))
    if name == "drop_wait":
        return (name, draw.randint(-1, len(waits)))
    if name == "free":
        return (name, draw.randint(-1, len(duties)))
    if name == "owe":
        can = ("can", draw.randint(0, many))
        ahead = ("ahead", draw.randrange(many), draw.randrange(many), draw.randint(-6, 3))
        return (name, draw.choice([can, ahead, ahead]))
    return (name, None)


class LiveTest(unittest.TestCase):
    def do(self, live, name, thing):
        """The answer of a method, None for back and again without an argument; or the error with its field."""
        method = getattr(live, name)
        before = state(live)
        try:
            return method() if name in ("back", "again") else method(thing)
        except (Broken, NoDuty, NoIndex, Nothing, TooMany) as error:
            self.assertEqual(before, state(live))
            fields = list(vars(error).values())
            return (error.__class__, fields[0] if fields else None)

    def test_the_example(self):
        live = Live(SYSTEM)
        self.assertEqual((0, 2, 1), live.plan())
        self.assertIsNone(live.owe(("can", 2)))
        self.assertIsNone(live.owe(("ahead", 0, 2, 1)))
        self.assertIsNone(live.put_wait((2, ((1, 1),))))
        self.assertEqual((0, 2, 3), live.plan())
        self.assertEqual(("ahead", 0, 2, 1), failed(self, Broken, live.drop_wait, 0).duty)

    def test_what_is_told_at_first(self):
        for system in [SYSTEM, (0, ()), (2, ((0, ()),)), (10, ())]:
            live = Live(system)
            self.assertEqual(system, live.system())
            self.assertEqual([], live.duties())
            self.assertEqual(least_plan(system), live.plan())
            failed(self, Nothing, live.back)
            failed(self, Nothing, live.again)

    def test_any_value_as_a_system(self):
        values = ANY + list(exchanged(SYSTEM)) + [Live(SYSTEM), (Live(SYSTEM), ()), (1, (Live(SYSTEM),)), SYSTEM]
        made = 0
        for thing in values:
            if is_system(thing):
                made += 1
                self.assertEqual(thing, Live(thing).system())
            else:
                self.assertEqual(0, failed(self, Wrong, Live, thing).place)
        self.assertGreater(made, 5)

    def test_any_value_as_a_wait(self):
        values = ANY + list(exchanged((2, ((0, 1), (1, 0))))) + [Live(SYSTEM), (0, (Live(SYSTEM),)), (3, ()), (0, ())]
        for thing in values:
            for system in [SYSTEM, (0, ())]:
                live = Live(system)
                if is_wait(system[0], thing):
                    self.assertIsNone(live.put_wait(thing))
                    self.assertEqual((system[0], system[1] + (thing,)), live.system())
                else:
                    self.assertEqual(0, failed(self, Wrong, live.put_wait, thing).place)
                    self.assertEqual(system, live.system())
                    failed(self, Nothing, live.back)

    def test_any_value_as_a_duty(self):
        values = ANY + list(exchanged(("can", 1))) + list(exchanged(("ahead", 0, 2, 1))) + [
            ("can", True), ("can", -1), ("can", 3), ("can", None), ("ahead", 0, 0, -5), ("ahead", 0, True, 0),
            ("ahead", False, 1, 0), ("ahead", 0, 1, True), ("ahead", 0, 3, 0), ("ahead", -1, 0, 0), ["can", 1],
            ("ahead", 0, 1), ("can", 1, 0), ("can",), (Live(SYSTEM), 1), ("Can", 1), ("ahead", 0, 1, BIG), Live(SYSTEM),
            ("ahead", 2, 0, -BIG)]
        found = {True: 0, False: 0}
        for thing in values:
            live = Live((3, ((0, ((1, 5),)), (1, ((0, -9),)))))
            system = live.system()
            if not slow_is_duty(system, thing):
                self.assertIs(thing, failed(self, NoDuty, live.owe, thing).duty)
                self.assertEqual([], live.duties())
            elif slow_is_kept(system, thing):
                self.assertIsNone(live.owe(thing))
                self.assertEqual([thing], live.duties())
            else:
                self.assertEqual(thing, failed(self, Broken, live.owe, thing).duty)
                self.assertEqual([], live.duties())
            found[slow_is_duty(system, thing)] += 1
        self.assertTrue(min(found.values()) > 5, found)

    def test_any_value_as_an_index(self):
        for thing in ANY + [-1, 3, 4, BIG, -BIG, Live(SYSTEM), "1", 2]:
            live = Live((3, SYSTEM[1] + ((0, ((2, -9),)),)))
            for duty in [("can", 0), ("can", 1), ("ahead", 0, 1, 2)]:
                live.owe(duty)
            before = state(live)
            if thing.__class__ is int and thing in range(3):
                self.assertEqual([("can", 0), ("can", 1), ("ahead", 0, 1, 2)][thing], live.free(thing))
                live.back()
                if thing > 0:
                    wait = live.system()[1][thing]
                    self.assertEqual(wait, live.drop_wait(thing))
                    self.assertNotEqual(before, state(live))
            else:
                self.assertIs(thing, failed(self, NoIndex, live.free, thing).index)
                self.assertIs(thing, failed(self, NoIndex, live.drop_wait, thing).index)
                self.assertEqual(before, state(live))

    def test_the_fortieth_wait_and_one_more(self):
        live = Live((2, ((0, ((1, 0),)),) * 38))
        live.owe(("can", 0))
        for many in [39, 40]:
            self.assertIsNone(live.put_wait((1, ((0, -5),))))
            self.assertEqual(many, len(live.system()[1]))
        # TooMany comes ahead of Broken, Wrong ahead of both.
        self.assertEqual(40, failed(self, TooMany, live.put_wait, (0, ())).most)
        self.assertEqual(0, failed(self, Wrong, live.put_wait, (2, ())).place)
        self.assertEqual(40, len(live.system()[1]))
        live.drop_wait(0)
        self.assertEqual(("can", 0), failed(self, Broken, live.put_wait, (0, ())).duty)
        live.put_wait((1, ((0, -5),)))
        self.assertEqual(40, failed(self, TooMany, live.put_wait, (1, ((0, -5),))).most)
        live.back()
        live.free(0)
        self.assertIsNone(live.put_wait((0, ())))

    def test_systems_with_more_waits(self):
        live = Live((1, ((0, ((0, 0),)),) * 45))
        self.assertEqual(40, failed(self, TooMany, live.put_wait, (0, ())).most)
        self.assertEqual((0, ((0, 0),)), live.drop_wait(44))
        self.assertEqual(44, len(live.system()[1]))

    def test_the_first_duty_in_order_that_would_not_be_kept(self):
        live = Live((3, ((1, ((0, 2),)), (2, ((1, 3),)))))
        for duty in [("can", 0), ("ahead", 0, 2, 5), ("ahead", 0, 1, 2), ("can", 1)]:
            live.owe(duty)
        for wait, duty in [((0, ()), ("can", 0)), ((1, ()), ("can", 1))]:
            self.assertEqual(duty, failed(self, Broken, live.put_wait, wait).duty)
        self.assertEqual(("ahead", 0, 2, 5), failed(self, Broken, live.drop_wait, 0).duty)
        self.assertEqual(("ahead", 0, 2, 5), failed(self, Broken, live.drop_wait, 1).duty)
        self.assertEqual(("ahead", 0, 2, 5), live.free(1))
        self.assertEqual(("ahead", 0, 1, 2), failed(self, Broken, live.drop_wait, 0).duty)
        self.assertEqual((2, ((1, 3),)), live.drop_wait(1))
        self.assertEqual([("can", 0), ("ahead", 0, 1, 2), ("can", 1)], live.duties())

    def test_duties_are_kept_at_their_edge(self):
        live = Live((2, ((1, ((0, 2),)),)))
        self.assertEqual(("ahead", 0, 1, 3), failed(self, Broken, live.owe, ("ahead", 0, 1, 3)).duty)
        self.assertIsNone(live.owe(("ahead", 0, 1, 2)))
        self.assertIsNone(live.owe(("ahead", 0, 1, 2)))
        self.assertEqual(("ahead", 1, 0, -99), failed(self, Broken, live.owe, ("ahead", 1, 0, -99)).duty)
        self.assertEqual([("ahead", 0, 1, 2)] * 2, live.duties())
        # What never happens is ahead of nothing.
        barred = Live((2, ((1, ()),)))
        self.assertIsNone(barred.owe(("ahead", 0, 1, BIG)))
        self.assertEqual(("can", 1), failed(self, Broken, barred.owe, ("can", 1)).duty)
        self.assertEqual(("ahead", 0, 1, BIG), failed(self, Broken, barred.drop_wait, 0).duty)

    def test_back_and_again(self):
        live = Live(SYSTEM)
        shown = [state(live)]
        for name, thing in [
                ("owe", ("can", 1)), ("put_wait", (0, ((1, -7),))), ("drop_wait", 1), ("free", 0),
                ("put_wait", (2, ()))]:
            self.do(live, name, thing)
            shown.append(state(live))
        self.assertEqual(6, len(set(shown)))
        for expected in shown[-2::-1]:
            self.assertIsNone(live.back())
            self.assertEqual(expected, state(live))
        for _ in range(2):
            failed(self, Nothing, live.back)
            self.assertEqual(shown[0], state(live))
        for expected in shown[1:]:
            self.assertIsNone(live.again())
            self.assertEqual(expected, state(live))
        for _ in range(2):
            failed(self, Nothing, live.again)
            self.assertEqual(shown[-1], state(live))
        live.back()
        live.back()
        live.again()
        self.assertEqual(shown[-2], state(live))
        live.owe(("can", 0))
        failed(self, Nothing, live.again)
        live.back()
        self.assertEqual(shown[-2], state(live))

    def test_what_is_refused_takes_nothing_back(self):
        live = Live(SYSTEM)
        live.owe(("can", 1))
        live.put_wait((0, ((2, -9),)))
        live.back()
        for call_it, error in [
                (lambda: live.put_wait((1, ())), Broken), (lambda: live.put_wait(None), Wrong),
                (lambda: live.drop_wait(9), NoIndex), (lambda: live.owe(None), NoDuty),
                (lambda: live.free(1), NoIndex)]:
            failed(self, error, call_it)
        live.again()
        self.assertEqual((0, ((2, -9),)), live.system()[1][-1])
        failed(self, Nothing, live.again)

    def test_twins(self):
        live = Live(SYSTEM)
        live.owe(("can", 2))
        live.put_wait((1, ((2, 0),)))
        live.back()
        twin = live.twin()
        self.assertEqual(state(live), state(twin))
        self.assertTrue(live == twin and twin == live and not live != twin)
        # Both go on by themselves, back and again.
        live.again()
        self.assertNotEqual(state(live), state(twin))
        self.assertFalse(live == twin)
        twin.back()
        self.assertEqual([], twin.duties())
        failed(self, Nothing, twin.back)
        twin.again()
        twin.again()
        self.assertEqual(state(live), state(twin))
        self.assertTrue(live == twin)
        twin.drop_wait(0)
        self.assertEqual(3, len(live.system()[1]))
        live.back()
        live.back()
        self.assertEqual([("can", 2)], twin.duties())
        failed(self, Nothing, twin.again)
        live.again()

    def test_equal_ones(self):
        one, other = Live(SYSTEM), Live((3, ((1, ((0, 2),)), (2, ((0, 1), (1, 0))))))
        self.assertTrue(one == other)
        one.owe(("can", 0))
        self.assertFalse(one == other)
        self.assertTrue(one != other)
        other.put_wait((0, ()))
        other.back()
        other.owe(("can", 0))
        self.assertTrue(one == other)
        one.owe(("can", 1))
        one.owe(("can", 2))
        other.owe(("can", 2))
        other.owe(("can", 1))
        self.assertFalse(one == other)
        other.free(1)
        other.owe(("can", 2))
        self.assertTrue(one == other)
        self.assertFalse(Live((3, SYSTEM[1][::-1])) == Live(SYSTEM))
        for thing in ANY + [SYSTEM, (SYSTEM, ()), object()]:
            self.assertFalse(one == thing)
            self.assertTrue(one != thing)
            self.assertFalse(thing == one)

    def test_answers_may_be_changed(self):
        live = Live(SYSTEM)
        live.owe(("can", 2))
        before = state(live)
        spoil(live.duties())
        self.assertEqual(before, state(live))
        for method in [live.system, live.duties, live.plan]:
            call(self, method)
        self.assertIsNot(live.duties(), live.duties())

    def test_drawn_deeds(self):
        draw = drawing(221)
        answers = {}
        for _ in range(120):
            system = drawn_system(draw, draw.randint(1, 4), 5, 3)
            live, model = Live(system), Model(system)
            others = []
            for _ in range(30):
                now, duties = model.states[model.at]
                self.assertEqual((now, list(duties)), (live.system(), live.duties()))
                name, thing = drawn_deed(draw, now, duties)
                expected = model.deed(name, thing)
                self.assertEqual(expected, self.do(live, name, thing), (now, duties, name, thing))
                word = expected[0].__name__ if isinstance(expected, tuple) and isinstance(expected[0], type) else name
                answers[word] = answers.get(word, 0) + 1
                self.assertEqual(oracle.least_plan(live.system()), live.plan())
                if draw.random() < 0.1:
                    others.append((live.twin(), state(live)))
            for twin, shown in others:
                self.assertEqual(shown, state(twin))
        names = ["put_wait", "drop_wait", "owe", "free", "back", "again", "Broken", "NoDuty", "NoIndex", "Nothing"]
        self.assertTrue(all([answers.get(name, 0) > 40 for name in names]), answers)

    def test_duties_of_barred_events(self):
        live = Live((2, ((0, ((1, 0),)),)))
        live.owe(("ahead", 1, 0, 0))
        live.put_wait((1, ()))
        self.assertEqual((0, 1), barred_events(live.system()))
        self.assertEqual(("can", 1), failed(self, Broken, live.owe, ("can", 1)).duty)
        self.assertIsNone(live.owe(("ahead", 0, 1, 7)))
        self.assertEqual(("ahead", 0, 1, 7), failed(self, Broken, live.drop_wait, 1).duty)
