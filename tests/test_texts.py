import unittest

from leastpowers.texts import show_system, show_table
from samples import BIG, call


class TextsTest(unittest.TestCase):
    def test_a_table(self):
        first = (((0, 1, 3), (2, 4, 4), (0, -2, None), (1, -3, -1)), (2, 2))
        table = (3, (first, ((), (-5, None)), (((1, 0, 0),), None)))
        expected = "unknowns 3\nrow 0:1..3 2:4 0:-2..none 1:-3..-1 = 2\nrow = -5..none\nrow 1:0 = nothing"
        self.assertEqual(expected, call(self, show_table, table))

    def test_tables_without_unknowns_and_rows(self):
        self.assertEqual("unknowns 0", call(self, show_table, (0, ())))
        self.assertEqual("unknowns 4", call(self, show_table, (4, ())))
        table = (0, (((), None), ((), (0, 1))))
        self.assertEqual("unknowns 0\nrow = nothing\nrow = 0..1", call(self, show_table, table))

    def test_a_side_twice(self):
        table = (1, ((((0, 1, 1), (0, 1, 1)), None),))
        self.assertEqual("unknowns 1\nrow 0:1 0:1 = nothing", call(self, show_table, table))

    def test_a_system(self):
        system = (3, ((0, ((0, 0), (1, 2), (2, -1))), (1, ()), (2, ((1, -60),)), (1, ())))
        self.assertEqual("events 3\nwait 0 0+0 1+2 2-1\nwait 1\nwait 2 1-60\nwait 1", call(self, show_system, system))

    def test_systems_without_events_and_waits(self):
        self.assertEqual("events 0", call(self, show_system, (0, ())))
        self.assertEqual("events 100", call(self, show_system, (100, ())))

    def test_integers_of_forty_digits(self):
        digits = "1" + "0" * 38 + "7"
        table = (1, ((((0, -BIG, BIG),), (BIG, BIG)),))
        self.assertEqual(f"unknowns 1\nrow 0:-{digits}..{digits} = {digits}", call(self, show_table, table))
        system = (1, ((0, ((0, -BIG),)), (0, ((0, BIG),))))
        self.assertEqual(f"events 1\nwait 0 0-{digits}\nwait 0 0+{digits}", call(self, show_system, system))
