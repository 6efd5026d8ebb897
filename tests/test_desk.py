import re
import unittest

import oracle
from leastpowers.desk import Desk
from leastpowers.errors import Broken, NoCommand, NoDuty, NoIndex, NoText, Nothing, TooMany, Wrong
from leastpowers.following import follows
from leastpowers.leastplan import barred_events
from leastpowers.live import Live
from leastpowers.reader import read_system
from leastpowers.texts import show_system
from samples import ANY, BIG, call, drawing, drawn_system, failed, spoil
from test_live import drawn_deed, state

TEXT = "events 3\nwait 1 0+2\nwait 2 0+1 1+0"
N = "(0|[1-9][0-9]{0,8})"
W = "(0|-?[1-9][0-9]{0,8})"


def do(live, name, thing):
    """What a Live does, as a desk tells it."""
    method = getattr(live, name)
    try:
        method() if name in ("back", "again") else method(thing)
    except (Broken, NoDuty, NoIndex, Nothing, TooMany) as error:
        return [f"refused {error.__class__.__name__}"]
    return ["done"]


def slow_execute(live, line):
    """What a desk of a Live answers to a line, None for a line that is no command."""
    line = re.sub(" +", " ", line).strip(" ")
    system = live.system()
    for pattern, name, made in [
            (f"drop {N}", "drop_wait", lambda at: int(at)), (f"free {N}", "free", lambda at: int(at)),
            (f"owe can {N}", "owe", lambda event: ("can", int(event))),
            (f"owe ahead {N} {N} {W}", "owe", lambda *parts: ("ahead", *[int(part) for part in parts])),
            ("back", "back", lambda: None), ("again", "again", lambda: None)]:
        found = re.fullmatch(pattern, line)
        if found:
            return do(live, name, made(*found.groups()))
    if line.split(" ")[0] in ("wait", "follows"):
        wait = None if "#" in line else oracle.wait_in(re.sub("^follows", "wait", line), system[0])
        if wait is None:
            return None
        if line.startswith("wait"):
            return do(live, "put_wait", wait)
        return ["yes" if follows(system, wait) else "no"]
    return {
        "system": show_system(system).split("\n"), "duties": [" ".join(map(str, duty)) for duty in live.duties()],
        "plan": [" ".join([str(order).lower() for order in live.plan()])],
        "barred": [" ".join(map(str, barred_events(system)))],
    }.get(line)


class DeskTest(unittest.TestCase):
    def run_lines(self, desk, pairs):
        for line, expected in pairs:
            if expected is NoCommand:
                failed(self, NoCommand, desk.execute, line)
            else:
                self.assertEqual(expected, desk.execute(line), line)

    def test_the_example(self):
        desk = Desk(TEXT)
        self.run_lines(desk, [
            ("plan", ["0 2 1"]), ("owe ahead 0 2 1", ["done"]), ("wait 2 1+1", ["done"]), ("plan", ["0 2 3"]),
            ("drop 0", ["refused Broken"]), ("follows 2 0+3", ["yes"]), ("follows 2 0+4", ["no"]),
            ("duties", ["ahead 0 2 1"]), ("back", ["done"]),
            ("system", ["events 3", "wait 1 0+2", "wait 2 0+1 1+0"]), ("barred", [""]), ("wait 0", ["done"]),
            ("owe can 7", ["refused NoDuty"]), ("plan", ["none none none"]), ("barred", ["0 1 2"])])

    def test_any_value_as_a_text(self):
        for thing in ANY + [Live((0, ())), 5, ["events 1"]]:
            if isinstance(thing, str):
                failed(self, NoText, Desk, thing)
            else:
                self.assertEqual(0, failed(self, Wrong, Desk, thing).place)

    def test_texts(self):
        for text, line in [
                ("", 1), ("\n\n", 3), ("unknowns 1", 0), ("events 2\nwait 2", 1), ("events 2\n\nwait 0 1-0", 2),
                ("events 101", 0), ("wait 0", 0), ("events 1\nevents 1", 1)]:
            self.assertEqual(line, failed(self, NoText, Desk, text).line)
        for text in [TEXT, " events  3 # three\n\nwait 1 0+2 #\n wait 2 1+0  0+1 "]:
            self.assertEqual(TEXT.split("\n"), Desk(text).execute("system"))

    def test_any_value_as_a_line(self):
        desk = Desk(TEXT)
        for thing in ANY + [Live((0, ())), "plan\n", "\n", "wait 0\nwait 1", b"plan", ["plan"], ("plan",)]:
            if thing == "plan":
                self.assertEqual(["0 2 1"], desk.execute(thing))
            elif isinstance(thing, str) and "\n" not in thing:
                failed(self, NoCommand, desk.execute, thing)
            else:
                self.assertEqual(0, failed(self, Wrong, desk.execute, thing).place)
        self.assertEqual(["refused Nothing"], desk.execute("back"))

    def test_systems_without_events(self):
        self.run_lines(Desk("events 0"), [
            ("system", ["events 0"]), ("plan", [""]), ("barred", [""]), ("duties", []), ("wait 0", NoCommand),
            ("follows 0", NoCommand), ("owe can 0", ["refused NoDuty"]), ("drop 0", ["refused NoIndex"]),
            ("free 0", ["refused NoIndex"]), ("back", ["refused Nothing"]), ("again", ["refused Nothing"])])

    def test_blanks(self):
        self.run_lines(Desk(TEXT), [
            ("  plan ", ["0 2 1"]), (" owe   ahead 0  2 1  ", ["done"]), ("   duties", ["ahead 0 2 1"]),
            ("  wait   2  1+1 ", ["done"]), ("   free  0 ", ["done"]), ("  back", ["done"]), ("again  ", ["done"]),
            (" follows  2   0+3 ", ["yes"]), ("", NoCommand), ("   ", NoCommand), ("pl an", NoCommand),
            ("plan\t", NoCommand), ("wait 2 1 +1", NoCommand), ("wait 2 1+ 1", NoCommand), ("owecan 1", NoCommand)])

    def test_signs(self):
        self.run_lines(Desk(TEXT), [
            ("plan #", NoCommand), ("plan # 1", NoCommand), ("# plan", NoCommand), ("#", NoCommand),
            ("wait 0 # 1+2", NoCommand), ("wait 0 1+2#", NoCommand), ("wait 0 1+2 #", NoCommand),
            ("follows 0 1+2 # so", NoCommand), ("drop 0#", NoCommand), ("owe can 0 #", NoCommand),
            ("Plan", NoCommand), ("PLAN", NoCommand), ("plans", NoCommand), ("quit", NoCommand)])
        desk = Desk(TEXT)
        self.run_lines(desk, [("back", ["refused Nothing"])])

    def test_integers(self):
        self.run_lines(Desk(TEXT), [
            ("drop 999999999", ["refused NoIndex"]), ("drop 1000000000", NoCommand), ("drop 00", NoCommand),
            ("drop +0", NoCommand), ("drop -0", NoCommand), ("drop -1", NoCommand), ("drop 01", NoCommand),
            ("free 123456789", ["refused NoIndex"]), ("free 1234567890", NoCommand), ("free -1", NoCommand),
            ("owe can 999999999", ["refused NoDuty"]), ("owe can 9999999999", NoCommand), ("owe can -1", NoCommand),
            ("owe can 02", NoCommand), ("owe ahead 0 999999999 1", ["refused NoDuty"]),
            ("owe ahead 0 1 -999999999", ["done"]), ("owe ahead 0 1 999999999", ["refused Broken"]),
            ("owe ahead 0 1 -1000000000", NoCommand), ("owe ahead 0 1 1000000000", NoCommand),
            ("owe ahead 0 1 +1", NoCommand), ("owe ahead 0 1 -0", NoCommand), ("owe ahead 0 1 --1", NoCommand),
            ("owe ahead 0 1 -", NoCommand), ("owe ahead 0 1 01", NoCommand), ("owe ahead 0 1 -01", NoCommand),
            ("owe ahead -0 1 0", NoCommand), ("owe ahead 0 -1 0", NoCommand), ("owe ahead 0 1 0", ["done"]),
            ("owe ahead 1 1 0", ["refused NoDuty"]), ("owe ahead 0 3 0", ["refused NoDuty"]),
            ("owe ahead 0 1000000000 0", NoCommand), ("owe ahead 1000000000 0 0", NoCommand), ("drop 0x1", NoCommand),
            ("drop 1_0", NoCommand), ("drop 1.0", NoCommand), ("drop none", NoCommand), ("drop True", NoCommand),
            ("duties", ["ahead 0 1 -999999999", "ahead 0 1 0"])])

    def test_delays_as_in_texts(self):
        # A line wait is as read_system would read it, with integers of up to forty digits.
        desk = Desk(TEXT)
        self.run_lines(desk, [
            ("follows 1 0+1000000000000", ["no"]), ("follows 1 0-1000000000000", ["yes"]),
            (f"wait 0 1+{BIG}", ["done"]),
            (f"wait 0 1+{10 * BIG}", NoCommand), ("wait 0 1-1000000000", ["done"]), ("wait 0 1+01", NoCommand),
            ("wait 0 1+", NoCommand), ("wait 0 +1", NoCommand), ("wait 0 1-0", NoCommand), ("wait 0 1+-1", NoCommand),
            ("wait 0 1", NoCommand), ("wait 00", NoCommand), ("wait", NoCommand), ("follows", NoCommand),
            ("wait 3", NoCommand), ("wait 0 3+1", NoCommand), ("follows 3", NoCommand), ("follows 0 3+1", NoCommand)])
        self.assertEqual(3, desk.execute("system").index("wait 0 1+" + str(BIG)))

    def test_options(self):
        desk = Desk("events 3")
        self.run_lines(desk, [
            ("wait 0 2+1 1-1 0+0", ["done"]), ("system", ["events 3", "wait 0 0+0 1-1 2+1"]),
            ("wait 0 1+1 1+1", NoCommand), ("wait 0 1+1 2+0 1+2", NoCommand), ("follows 0 2+1 1-1", ["no"]),
            ("follows 0 2+2 1+0 0+0", ["yes"]), ("follows 0 0+0", ["yes"]), ("follows 0 2+1 2+1", NoCommand),
            ("follows 0", ["no"]), ("wait 0", ["done"]), ("follows 0", ["yes"]), ("plan", ["none 0 0"])])

    def test_words_more_and_less(self):
        desk = Desk(TEXT)
        lines = ["system", "duties", "plan", "barred", "back", "again", "drop 0", "free 0", "owe can 0"]
        lines.append("owe ahead 0 1 2")
        for line in lines:
            for other in [f"{line} 0", f"{line} plan", f"0 {line}", line.upper(), f"{line}x"]:
                if (line, other) not in [("drop 0", "drop 0x")]:
                    failed(self, NoCommand, desk.execute, other)
            words = line.split(" ")
            if len(words) > 1:
                failed(self, NoCommand, desk.execute, " ".join(words[:-1]))
        for line in ["owe", "owe 0", "owe can", "owe ahead", "owe wait 0", "owe can can 0", "drop", "free", "can 0"]:
            failed(self, NoCommand, desk.execute, line)
        self.run_lines(desk, [("back", ["refused Nothing"]), ("system", TEXT.split("\n"))])

    def test_refusals(self):
        desk = Desk("events 2\n" + "wait 0 1+0\n" * 39)
        self.run_lines(desk, [
            ("owe can 0", ["done"]), ("owe can 1", ["done"]), ("wait 0", ["refused Broken"]), ("wait 1 0-9", ["done"]),
            ("wait 1", ["refused TooMany"]), ("wait 2", NoCommand), ("again", ["refused Nothing"]), ("back", ["done"]),
            ("again", ["done"]), ("drop 40", ["refused NoIndex"]), ("drop 39", ["done"]),
            ("free 2", ["refused NoIndex"]),
            ("free 1", ["done"]), ("duties", ["can 0"]), ("wait 1", ["refused Broken"]), ("free 0", ["done"]),
            ("wait 1", ["done"]), ("barred", ["0 1"]), ("owe can 1", ["refused Broken"]), ("duties", []),
            ("drop 0", ["done"]), ("owe ahead 0 1 5", ["done"]), ("drop 38", ["refused Broken"])])

    def test_lives_of_a_desk(self):
        desk = Desk(TEXT)
        desk.execute("owe can 1")
        desk.execute("wait 0 1-7")
        desk.execute("back")
        live = desk.live()
        self.assertIsInstance(live, Live)
        self.assertEqual([("can", 1)], live.duties())
        before = state(live)
        desk.execute("again")
        desk.execute("free 0")
        self.assertEqual(before, state(live))
        live.again()
        live.back()
        live.back()
        failed(self, Nothing, live.back)
        self.assertEqual(["wait 0 1-7"], desk.execute("system")[3:])
        self.assertEqual([], desk.execute("duties"))
        other = desk.live()
        self.assertFalse(other == live)
        self.assertTrue(other == desk.live())
        other.drop_wait(0)
        self.assertEqual(4, len(desk.execute("system")))

    def test_answers_may_be_changed(self):
        desk = Desk(TEXT)
        desk.execute("owe can 2")
        for line in ["system", "duties", "plan", "barred", "follows 2 0+1", "follows 1"]:
            call(self, desk.execute, line)
        spoil(desk.execute("back"))
        self.assertEqual(["done"], desk.execute("again"))

    def test_drawn_lines(self):
        draw = drawing(231)
        answers = {}
        for _ in range(80):
            text = show_system(drawn_system(draw, draw.randint(1, 4), 5, 3))
            desk, live = Desk(text), Live(read_system(text))
            for _ in range(30):
                line = self.drawn_line(draw, live)
                expected = slow_execute(live, line)
                if expected is None:
                    failed(self, NoCommand, desk.execute, line)
                else:
                    self.assertEqual(expected, desk.execute(line), line)
                word = "none" if expected is None else expected[0] if len(expected) == 1 else "lines"
                answers[word] = answers.get(word, 0) + 1
                self.assertTrue(desk.live() == live)
        words = ["none", "done", "refused Broken", "refused NoDuty", "refused NoIndex", "refused Nothing", "yes", "no"]
        self.assertTrue(all([answers.get(word, 0) > 15 for word in words]), answers)

    def drawn_line(self, draw, live):
        name, thing = drawn_deed(draw, live.system(), live.duties())
        line = draw.choice(["plan", "barred", "duties", "system"])
        if name == "put_wait":
            line = show_system((9, (thing,))).split("\n")[1]
            line = draw.choice([line, line, line.replace("wait", "follows")])
        elif name in ("drop_wait", "free"):
            line = f"{name[:4]} {thing}"
        elif name == "owe":
            line = " ".join(["owe", *map(str, thing)])
        elif draw.random() < 0.7:
            line = name
        if draw.random() < 0.15:
            at = draw.randint(0, len(line))
            line = line[:at] + draw.choice(["  ", "#", "0", "+", "-", " 1", "a"]) + line[at:]
        return line
