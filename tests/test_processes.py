"""Names, heights and references (points 3 and 4)."""

import random
import unittest

import naive
from parley.processes import height, is_event, is_name, references

STOP = ("stop",)
A = ("name", "A")
B = ("name", "B")
TEN = (
    STOP,
    ("skip",),
    ("prefix", "a", A),
    ("external", A, B),
    ("internal", A, B),
    ("sequence", A, B),
    ("parallel", ("a",), A, B),
    ("hide", ("a",), A),
    ("rename", (("a", "b"),), A),
    A,
)


def chain(kind, many):
    """A process with many parts inside of each other, and the name A inside of all."""
    process = A
    for number in range(many):
        if kind == "prefix":
            process = (kind, "a", process)
        elif kind in ("hide", "parallel"):
            process = (kind, (), process) + ((STOP,) if kind == "parallel" else ())
        elif kind == "rename":
            process = (kind, (("a", "b"),), process)
        else:
            process = (kind, process, STOP) if number % 2 else (kind, STOP, process)
    return process


class NamesTest(unittest.TestCase):
    def test_events(self):
        for word in ("a", "z", "a0", "a9z", "abcdefghijkl", "a12345678901", "stops", "sto", "tau1", "loop", "pass"):
            self.assertIs(is_event(word), True, word)

    def test_no_events(self):
        wrong = ("", "abcdefghijklm", "A", "aB", "1", "1a", "0", "a_b", "a b", " a", "a ", "a-", "a\n", "a.b", "->")
        for word in wrong + ("\u00e4", "a\u00e4", "a\u00b2", "\u0430", "_a", "a\u0661"):
            self.assertIs(is_event(word), False, word)

    def test_six_words_are_no_events(self):
        for word in ("stop", "skip", "tau", "tick", "true", "loops"):
            self.assertIs(is_event(word), False, word)
            self.assertIs(is_event(word + "x"), True, word)

    def test_names(self):
        for word in ("A", "Z", "A0", "Az", "AZ9", "Abcdefghijkl", "ABCDEFGHIJKL", "A12345678901", "Stop", "TAU"):
            self.assertIs(is_name(word), True, word)

    def test_no_names(self):
        wrong = ("", "Abcdefghijklm", "a", "aB", "1A", "1", "A_B", "A B", " A", "A ", "A-", "A\n", "stop", "(A)")
        for word in wrong + ("\u00c4", "A\u00e4", "A\u00b2", "_A"):
            self.assertIs(is_name(word), False, word)


class HeightTest(unittest.TestCase):
    def test_ten_kinds(self):
        self.assertEqual([height(process) for process in TEN], [1, 1, 2, 2, 2, 2, 2, 2, 2, 1])

    def test_greatest_part_counts(self):
        two = ("prefix", "a", STOP)
        for kind in ("external", "internal", "sequence"):
            self.assertEqual(height((kind, two, STOP)), 3)
            self.assertEqual(height((kind, STOP, two)), 3)
        self.assertEqual(height(("parallel", (), two, STOP)), 3)
        self.assertEqual(height(("parallel", (), STOP, two)), 3)

    def test_chains_of_thousands(self):
        for kind in naive.PART_PLACES:
            if naive.PART_PLACES[kind]:
                self.assertEqual(height(chain(kind, 5000)), 5001, kind)

    def test_random_processes(self):
        source = random.Random(1)
        for _ in range(300):
            process = naive.random_process(source, ("P", "Q"), 6)
            self.assertEqual(height(process), naive.height(process))


class ReferencesTest(unittest.TestCase):
    def test_ten_kinds(self):
        expected = [[], [], ["A"], ["A", "B"], ["A", "B"], ["A", "B"], ["A", "B"], ["A"], ["A"], ["A"]]
        self.assertEqual([references(process) for process in TEN], expected)

    def test_each_name_once_and_ascending(self):
        process = ("external", ("sequence", ("name", "Q2"), B), ("parallel", (), ("name", "Q10"), ("prefix", "a", B)))
        self.assertEqual(references(process), ["B", "Q10", "Q2"])

    def test_strings_are_compared_by_ascii(self):
        process = ("external", ("name", "Pa"), ("external", ("name", "PB"), ("name", "P")))
        self.assertEqual(references(process), ["P", "PB", "Pa"])

    def test_chains_of_thousands(self):
        for kind in naive.PART_PLACES:
            if naive.PART_PLACES[kind]:
                self.assertEqual(references(chain(kind, 5000)), ["A"], kind)

    def test_returned_list_is_new(self):
        references(A).append("B")
        self.assertEqual(references(A), ["A"])


if __name__ == "__main__":
    unittest.main()
