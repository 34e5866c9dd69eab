"""Walks (point 11)."""

import unittest

from parley import errors
from parley.steps import steps
from parley.texts import parse_process, parse_script, show_process
from parley.walks import Walk
from test_steps import crossed

SCRIPT = parse_script("P = a -> Q + b -> stop\nQ = tau1 -> P | skip")


class WalkTest(unittest.TestCase):
    def at(self, walk, text, actions, trace):
        """Checks where a walk is, after any of its methods."""
        self.assertEqual(show_process(walk.place), text)
        self.assertEqual(walk.actions, actions)
        self.assertEqual(walk.trace, trace)
        self.assertEqual(walk.choices(), steps(SCRIPT, walk.place))

    def test_methods_and_properties_stand_in_the_class(self):
        for name in ("choices", "take", "follow", "back"):
            self.assertTrue(callable(vars(Walk)[name]))
        for name in ("place", "actions", "trace"):
            self.assertIsInstance(vars(Walk)[name], property)

    def test_start(self):
        walk = Walk(SCRIPT, ("name", "P"))
        self.at(walk, "P", (), ())
        self.assertIs(walk.back(), False)
        self.at(walk, "P", (), ())

    def test_follow_and_back(self):
        walk = Walk(SCRIPT, ("name", "P"))
        self.assertIs(walk.follow("a"), True)
        self.at(walk, "Q", ("a",), ("a",))
        self.assertIs(walk.follow("a"), False)
        self.at(walk, "Q", ("a",), ("a",))
        self.assertIs(walk.follow("tau"), True)
        self.at(walk, "skip", ("a", "tau"), ("a",))
        self.assertIs(walk.follow("tau"), False)
        self.assertIs(walk.follow("tick"), True)
        self.at(walk, "stop", ("a", "tau", "tick"), ("a", "tick"))
        self.assertIs(walk.follow("tick"), False)
        self.assertIs(walk.back(), True)
        self.at(walk, "skip", ("a", "tau"), ("a",))
        self.assertIs(walk.back(), True)
        self.at(walk, "Q", ("a",), ("a",))
        self.assertIs(walk.back(), True)
        self.at(walk, "P", (), ())
        self.assertIs(walk.back(), False)
        self.at(walk, "P", (), ())

    def test_follow_takes_the_first_choice_with_the_action(self):
        walk = Walk(SCRIPT, parse_process("b -> stop + (a -> skip + a -> (P | Q))"))
        self.assertIs(walk.follow("a"), True)
        self.assertEqual(show_process(walk.place), "P | Q")

    def test_take(self):
        walk = Walk(SCRIPT, ("name", "Q"))
        self.assertEqual([show_process(target) for _, target in walk.choices()], ["skip", "tau1 -> P"])
        self.assertEqual(walk.take(1), "tau")
        self.at(walk, "tau1 -> P", ("tau",), ())
        self.assertEqual(walk.take(0), "tau1")
        self.at(walk, "P", ("tau", "tau1"), ("tau1",))
        self.assertEqual(walk.take(1), "b")
        self.at(walk, "stop", ("tau", "tau1", "b"), ("tau1", "b"))

    def test_take_out_of_range(self):
        walk = Walk(SCRIPT, ("name", "P"))
        walk.take(0)
        for index in (2, 3, 10**30, -1, -2, -10**30):
            with self.assertRaises(errors.BadArgument):
                walk.take(index)
            self.at(walk, "Q", ("a",), ("a",))
        ended = Walk(SCRIPT, ("stop",))
        for index in (0, -1, 1):
            with self.assertRaises(errors.BadArgument):
                ended.take(index)
            self.at(ended, "stop", (), ())

    def test_unknown_names(self):
        with self.assertRaises(errors.UnknownName) as caught:
            Walk(SCRIPT, parse_process("a -> (Z + P) ; Y"))
        self.assertEqual(caught.exception.name, "Y")

    def test_too_many_steps(self):
        big = crossed(69, 29)
        walk = Walk(SCRIPT, ("prefix", "b", big))
        self.assertIs(walk.follow("b"), True)
        for call in (walk.choices, lambda: walk.take(0), lambda: walk.take(-1), lambda: walk.follow("zzz")):
            with self.assertRaises(errors.TooLarge) as caught:
                call()
            self.assertEqual(caught.exception.limit, 2000)
            self.assertEqual((walk.place, walk.actions, walk.trace), (big, ("b",), ("b",)))
        self.assertIs(walk.back(), True)
        self.assertEqual(len(walk.choices()), 1)
        self.assertEqual(Walk(SCRIPT, big).place, big)

    def test_changing_what_is_returned_changes_nothing(self):
        walk = Walk(SCRIPT, ("name", "P"))
        walk.choices().clear()
        self.assertEqual(len(walk.choices()), 2)
        self.assertIsInstance(walk.actions, tuple)
        self.assertIsInstance(walk.trace, tuple)

    def test_two_walks_of_one_script(self):
        first, second = Walk(SCRIPT, ("name", "P")), Walk(SCRIPT, ("name", "P"))
        first.follow("b")
        self.at(second, "P", (), ())
        self.at(first, "stop", ("b",), ("b",))


if __name__ == "__main__":
    unittest.main()
