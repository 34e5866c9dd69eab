"""The texts of systems (point 16)."""

import random
import unittest

import naive_systems as naive
from parley import errors
from parley.systems import System
from parley.systemtext import format_system, parse_system


class FormatTest(unittest.TestCase):
    def test_without_edges(self):
        self.assertEqual(format_system(System(1, [])), "states 1")
        self.assertEqual(format_system(System(20000, [])), "states 20000")

    def test_edges_are_ascending(self):
        system = System(12, [(10, "a", 2), (2, "tick", 11), (2, "tau", 10), (2, "tau", 9), (0, "b1", 0), (2, "a", 11)])
        self.assertEqual(
            format_system(system),
            "states 12\n0 b1 0\n2 a 11\n2 tau 9\n2 tau 10\n2 tick 11\n10 a 2",
        )


class ParseTest(unittest.TestCase):
    def bad(self, line, text):
        with self.subTest(text=text[:60]):
            with self.assertRaises(errors.BadText) as caught:
                parse_system(text)
            self.assertEqual(caught.exception.line, line)

    def test_good_texts(self):
        self.assertEqual(parse_system("states 1"), System(1, []))
        self.assertEqual(parse_system("states 20000"), System(20000, []))
        self.assertEqual(
            parse_system("states 11\n0 a 0\n0 a 10\n0 abcdefghijkl 3\n0 tau 1\n0 tick 2\n2 a 0\n10 a 0"),
            System(11, [(0, "a", 0), (0, "a", 10), (0, "abcdefghijkl", 3), (0, "tau", 1), (0, "tick", 2), (2, "a", 0), (10, "a", 0)]),
        )

    def test_first_line(self):
        for text in (
            "", " ", "\n", "\nstates 1", "states", "states ", "states  1", " states 1", "states 1 ", "states 1 1",
            "state 1", "States 1", "states1", "states a", "states 1a", "states 01", "states +1", "states -1", "states 1_0",
            "states 00", "states 0", "states 20001", "states 99999", "states 100000", "0 a 0", "states 1.", "count 1",
        ):
            self.bad(1, text)

    def test_lines_of_edges(self):
        for row in (
            "", " ", "0", "0 a", "0 a 1 ", " 0 a 1", "0  a 1", "0 a  1", "0 a 1 2", "0a1", "0 a1", "00 a 1", "0 a 01",
            "0 a +1", "-0 a 1", "-1 a 0", "0 a -1", "0 a 3", "3 a 0", "0 a 20000", "0 A 1", "0 stop 1", "0 skip 1",
            "0 true 1", "0 loops 1", "0 abcdefghijklm 1", "0 1 1", "0 a_ 1", "a 0 1", "states 3", "0 a x", "x a 0",
            "0 -> 1", "0 a 1_0", "0 a 1,",
        ):
            self.bad(2, "states 3\n" + row)
            self.bad(3, "states 3\n0 a 0\n" + row)

    def test_newline_at_the_end_and_blank_lines(self):
        self.bad(2, "states 3\n")
        self.bad(3, "states 3\n0 a 1\n")
        self.bad(2, "states 3\n\n0 a 1")
        self.bad(3, "states 3\n0 a 1\n\n")

    def test_order_of_the_edges(self):
        self.bad(3, "states 11\n0 a 1\n0 a 1")
        self.bad(3, "states 11\n0 a 1\n0 a 0")
        self.bad(3, "states 11\n0 b 1\n0 a 2")
        self.bad(3, "states 11\n1 a 1\n0 b 2")
        # Numbers are compared as numbers, not as words.
        self.bad(3, "states 11\n0 a 10\n0 a 9")
        self.bad(3, "states 11\n10 a 0\n9 a 0")
        self.bad(4, "states 11\n0 a 0\n0 b 0\n0 a 1\n0 a 0")

    def test_first_of_two_wrong_lines(self):
        self.bad(1, "states 0\n0 a 9")
        self.bad(1, "states x\n\n")
        self.bad(2, "states 2\n0 a 2\n0 A 1")
        self.bad(3, "states 2\n0 b 1\n0 a 1\n0 a 0\n")
        self.bad(2, "states 2\n0 a 2\n0 a 1\n0 a 1")

    def test_very_long_numbers(self):
        long = "1" * 100000
        self.bad(1, "states " + long)
        self.bad(1, "states " + "0" * 100000)
        self.bad(2, f"states 2\n0 a {long}")
        self.bad(2, f"states 2\n{long} a 0")
        self.bad(2, f"states 2\n0 {'a' * 100000} 0")

    def test_round_trip(self):
        source = random.Random(16)
        for _ in range(300):
            system = naive.random_system(source, 12, 20, ("a", "b", "c2", "tau", "tick"))
            self.assertEqual(parse_system(format_system(system)), system)

    def test_large_systems(self):
        system = naive.ring(*["tau", "a"] * 10000)
        self.assertEqual(parse_system(format_system(system)), system)


if __name__ == "__main__":
    unittest.main()
