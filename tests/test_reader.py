import unittest

import oracle
from leastpowers.errors import NoText, Wrong
from leastpowers.reader import read_system, read_table
from leastpowers.texts import show_system, show_table
from samples import ANY, BIG, call, drawing, drawn_system, drawn_table, failed

FORTY = "1" + "0" * 38 + "7"
LONG = "1" + FORTY


class ReaderTest(unittest.TestCase):
    def bad_rows(self, many, lines):
        """Each line alone is not one of a table, be it the second line or a later one."""
        for line in lines:
            self.assertEqual(1, failed(self, NoText, read_table, f"unknowns {many}\n{line}").line, line)
            text = f"\nunknowns {many}\n# first\nrow = nothing\n{line}\nrow = nothing\nrow"
            self.assertEqual(4, failed(self, NoText, read_table, text).line, line)

    def bad_waits(self, many, lines):
        for line in lines:
            self.assertEqual(1, failed(self, NoText, read_system, f"events {many}\n{line}").line, line)
            text = f"\nevents {many}\n# first\nwait 0\n{line}\nwait 0\nwait"
            self.assertEqual(4, failed(self, NoText, read_system, text).line, line)

    def test_a_table(self):
        text = "unknowns 2\nrow 0:1..3 0:4 1:0..none = 2 # first\n\nrow = nothing"
        expected = (2, ((((0, 1, 3), (0, 4, 4), (1, 0, None)), (2, 2)), ((), None)))
        self.assertEqual(expected, call(self, read_table, text))

    def test_a_system(self):
        expected = (3, ((0, ((1, 2), (2, -1))), (1, ())))
        self.assertEqual(expected, call(self, read_system, "events 3\nwait 0 2-1 1+2\nwait 1"))

    def test_blanks_remarks_and_skipped_lines(self):
        expected = (2, ((((0, 1, 1), (1, -2, None)), (0, 3)),))
        for text in [
                "unknowns 2\nrow 0:1 1:-2..none = 0..3", "  unknowns   2  \n   row  0:1   1:-2..none   =   0..3   ",
                "\n\n \nunknowns 2\n  \n\nrow 0:1 1:-2..none = 0..3\n\n", "#\nunknowns 2#2\nrow 0:1 1:-2..none = 0..3#",
                "# row\nunknowns 2 # unknowns 3\n  # row\nrow 0:1 1:-2..none = 0..3 # # = 4"]:
            self.assertEqual(expected, call(self, read_table, text), text)
        expected = (2, ((1, ((0, 1),)),))
        for text in ["events 2\nwait 1 0+1", "\n # \n  events  2 \n\n#wait 0\n  wait   1   0+1   # 1+1\n"]:
            self.assertEqual(expected, call(self, read_system, text), text)

    def test_a_remark_needs_no_blank_and_ends_a_word(self):
        self.assertEqual((1, ((0, ((0, 1),)),)), read_system("events 1#0\nwait 0 0+1#5 0+2"))
        self.assertEqual(1, failed(self, NoText, read_table, "unknowns 1\nrow 0:1 # = nothing").line)

    def test_options_in_any_order(self):
        expected = (4, ((2, ((0, 5), (1, -7), (2, 0), (3, 1))),))
        for options in ["0+5 1-7 2+0 3+1", "3+1 2+0 1-7 0+5", "2+0 0+5 3+1 1-7"]:
            self.assertEqual(expected, call(self, read_system, f"events 4\nwait 2 {options}"))

    def test_sides_keep_their_order_and_may_be_the_same(self):
        expected = (2, ((((1, 0, 0), (0, 1, 1), (1, 0, 0)), None),))
        self.assertEqual(expected, call(self, read_table, "unknowns 2\nrow 1:0 0:1 1:0 = nothing"))

    def test_bounds_that_are_the_same_are_read_as_two(self):
        self.assertEqual((1, ((((0, 2, 2),), (-3, -3)),)), call(self, read_table, "unknowns 1\nrow 0:2..2 = -3..-3"))

    def test_without_members_rows_waits(self):
        self.assertEqual((0, ()), call(self, read_table, "unknowns 0"))
        self.assertEqual((0, ()), call(self, read_system, "events 0"))
        self.assertEqual((0, (((), None), ((), (0, 0)))), call(self, read_table, "unknowns 0\nrow = nothing\nrow = 0"))
        self.assertEqual((5, ()), call(self, read_table, "unknowns 5\n"))

    def test_a_number_of_a_hundred_and_above(self):
        self.assertEqual((100, ()), call(self, read_table, "unknowns 100"))
        self.assertEqual((100, ((99, ((0, 0), (99, 0))),)), call(self, read_system, "events 100\nwait 99 99+0 0+0"))
        self.assertEqual((100, ((((99, 0, 0),), None),)), call(self, read_table, "unknowns 100\nrow 99:0 = nothing"))
        for many in [101, 1000, FORTY, LONG]:
            self.assertEqual(0, failed(self, NoText, read_table, f"unknowns {many}").line)
            self.assertEqual(2, failed(self, NoText, read_system, f"#\n\nevents {many}\nwait 0").line)

    def test_integers_of_forty_digits_and_more(self):
        expected = (1, ((((0, -BIG, BIG),), (BIG, None)),))
        self.assertEqual(expected, call(self, read_table, f"unknowns 1\nrow 0:-{FORTY}..{FORTY} = {FORTY}..none"))
        self.assertEqual((1, ((0, ((0, BIG),)),)), call(self, read_system, f"events 1\nwait 0 0+{FORTY}"))
        self.assertEqual((1, ((0, ((0, -BIG),)),)), call(self, read_system, f"events 1\nwait 0 0-{FORTY}"))
        self.bad_rows(1, [f"row 0:{LONG} = nothing", f"row 0:-{LONG} = nothing", f"row 0:0..{LONG} = nothing"])
        self.bad_rows(1, [f"row {LONG}:0 = nothing", f"row = {LONG}", f"row = -{LONG}..none", f"row = 0..{LONG}"])
        self.bad_rows(1, ["row = " + "9" * 5000, "row = " + "0" * 41])
        self.bad_waits(1, [f"wait 0 0+{LONG}", f"wait 0 0-{LONG}", f"wait {LONG}", f"wait 0 {LONG}+0"])

    def test_first_lines(self):
        for name, function in [("unknowns", read_table), ("events", read_system)]:
            for line in [name, f"{name} ", f"{name} -1", f"{name} -0", f"{name} +1", f"{name} 01", f"{name} 00",
                f"{name} 1 1",
                         f"{name} x", f"{name}1", f"{name} 1_0", f"{name} 1.", f"{name.title()} 1", f"1 {name}",
                         f"{name} 1 =",
                         f"{name}\t1", f"{name} 1\r", f"{name} none", f"{name[:-1]} 1", "row = nothing", "wait 0", "="]:
                self.assertEqual(0, failed(self, NoText, function, line).line, line)
                self.assertEqual(2, failed(self, NoText, function, f"\n#\n{line}\n{name} 1").line, line)

    def test_the_first_line_of_the_other_kind(self):
        self.assertEqual(0, failed(self, NoText, read_table, "events 1").line)
        self.assertEqual(0, failed(self, NoText, read_system, "unknowns 1").line)
        self.bad_rows(1, ["wait 0", "events 1"])
        self.bad_waits(1, ["row = nothing", "unknowns 1"])

    def test_a_second_first_line(self):
        self.bad_rows(1, ["unknowns 1", "unknowns 2", "unknowns"])
        self.bad_waits(1, ["events 1", "events 0", "events"])

    def test_texts_without_the_first_line(self):
        for function in [read_table, read_system]:
            for text, line in [("", 1), (" ", 1), ("#", 1), ("# unknowns 1", 1), ("\n", 2), ("\n\n # events 1\n", 4)]:
                self.assertEqual(line, failed(self, NoText, function, text).line, text)
        self.assertEqual(1, failed(self, NoText, read_table, "\nrow = nothing\nunknowns 1").line)
        self.assertEqual(0, failed(self, NoText, read_system, "wait 0\nevents 1").line)

    def test_rows(self):
        self.bad_rows(2, [
            "row", "row =", "row 0:0", "row 0:0 =", "row nothing", "row 0:0 nothing", "= nothing",
            "row = nothing nothing", "row = 0 0", "row = nothing 0:0", "row = 0:0", "row 0:0 = = 0",
            "row = = nothing", "row = none", "row = Nothing", "Row = nothing", "rows = nothing", "row= nothing",
            "row =nothing", "row=nothing", "row 0:0 =0", "row 0:0= 0", "0:0 = nothing", "row\t= nothing",
            "row =\tnothing", "row 0:0\t1:0 = nothing", "row = nothing\r", "nothing"])

    def test_sides(self):
        self.bad_rows(2, [f"row {word} = nothing" for word in [
            "0", ":0", "0:", "0:0:0", "2:0", "99:0", "-1:0", "-0:0", "+0:0", "00:0", "01:0", "x:0", "0:x", "none:0",
            "0:none", "0: 0", "0 :0", "0:+0", "0:-0", "0:00", "0:01", "0:-01", "0:--1", "0:1_0", "0:1.0", "0:0..",
            "0:..0", "0:..", "0:0...1", "0:0..1..2", "0:0..None", "0:0..nothing", "0:0..-0", "0:0..+1", "0:0..01",
            "0:none..none", "0:none..0", "0:1..0", "0:0..-1", "0:-1..-2", "0:nothing", "0=0", "0,0", "0:0.1",
            "0:0 ..1", "0:0.. 1", "0:\u0663", "0:\u00b2"]])

    def test_right_sides(self):
        self.bad_rows(2, [f"row 0:0 = {word}" for word in [
            "1..0", "-0", "+1", "01", "none", "0..", "..0", "0..none..none", "nothing..none", "0..nothing", "x",
            "0:0", "="]])

    def test_unknowns_where_there_are_none(self):
        self.bad_rows(0, ["row 0:0 = nothing"])

    def test_waits(self):
        self.bad_waits(2, [
            "wait", "wait x", "wait 2", "wait -1", "wait -0", "wait 00", "wait +1", "wait 0+0", "Wait 0", "waits 0",
            "wait0", "0 0+0", "wait 0 =", "wait\t0", "wait 0\t", "wait 0 0+0\r", "wait 0,", "wait 99"])

    def test_options(self):
        self.bad_waits(2, [f"wait 0 {word}" for word in [
            "0", "+0", "0+", "0-", "-", "+", "0-0", "1-0", "0-00", "0+00", "0+01", "0-01", "0+-1", "0-+1", "0--1",
            "0++1", "2+0", "99+0", "-1+0", "-0+0", "00+0", "x+0", "0+x", "0:0", "0+0+0", "0+1-1", "0-1+1", "0 +0",
            "0+ 0", "0+none", "0+1.", "0+1_0", "0+0 0+0", "0+0 1+0 0+1", "1+0 0-1 1+0", "0+\u0661"]])

    def test_events_where_there_are_none(self):
        failed(self, NoText, read_system, "events 0\nwait 0")

    def test_the_first_of_two_bad_lines(self):
        self.assertEqual(2, failed(self, NoText, read_table, "unknowns 1\nrow = nothing\nrow\nrow 0:1..0 = 0").line)
        self.assertEqual(1, failed(self, NoText, read_table, "unknowns 1\nrow 0:1..0 = 0\nrow = x").line)
        self.assertEqual(0, failed(self, NoText, read_table, "unknowns x\nrow = x").line)
        self.assertEqual(1, failed(self, NoText, read_system, "events 1\nwait 1\nwait 0 0-0").line)
        self.assertEqual(1, failed(self, NoText, read_system, "events 1\nwait 0 0-0\nwait 1").line)

    def test_what_is_no_string(self):
        for function in [read_table, read_system]:
            for thing in ANY:
                if not isinstance(thing, str):
                    self.assertEqual(0, failed(self, Wrong, function, thing).place)
            failed(self, Wrong, function, ["unknowns 1"])

    def test_strings_of_any_kind(self):
        for thing in ANY:
            if isinstance(thing, str):
                self.assertEqual(oracle.read(thing, "events", oracle.wait_in),
                    failed(self, NoText, read_system, thing).line)

    def test_what_is_shown_is_read_back(self):
        draw = drawing(18)
        for _ in range(200):
            table = drawn_table(draw, draw.randint(0, 12), 8, 8)
            self.assertEqual(table, call(self, read_table, show_table(table)))
            system = drawn_system(draw, draw.randint(0, 12), 12)
            self.assertEqual(system, call(self, read_system, show_system(system)))

    def test_texts_of_ten_thousand_characters(self):
        table = (100, tuple([(tuple([(99, -10 ** 9, 10 ** 9)] * 8), None)] * 45))
        self.assertGreater(len(show_table(table)), 9000)
        self.assertEqual(table, read_table(show_table(table)))

    def test_texts_with_signs_exchanged(self):
        draw = drawing(19)
        texts = ["unknowns 2\nrow 0:1..3 0:4 1:0..none = 2 # a\n\nrow = nothing\nrow 1:-2 = -1..7",
                 "events 12\nwait 0 2-1 1+2 # b\n\nwait 1\nwait 10 11+10 0+0"]
        kinds = [("unknowns", oracle.row_in, read_table), ("events", oracle.wait_in, read_system)]
        for _ in range(4000):
            at = draw.randrange(2)
            text = texts[at]
            for _ in range(draw.randint(1, 2)):
                place = draw.randrange(len(text) + 1)
                text = text[:place] + draw.choice(["", *"0123 \n#.:=+-n"]) + text[place + draw.randint(0, 1):]
            name, part_in, function = kinds[at]
            expected = oracle.read(text, name, part_in)
            if isinstance(expected, int):
                self.assertEqual(expected, failed(self, NoText, function, text).line, text)
            else:
                self.assertEqual(expected, function(text), text)
