"""Exploring processes (points 10 and 13)."""

import random
import unittest

import naive
from parley import errors
from parley.exploring import explore
from parley.scripts import Script
from parley.systems import System
from parley.texts import parse_process, parse_script, show_process
from test_steps import STOP, choice, crossed, tower

EMPTY = parse_script("")


class ExploreTest(unittest.TestCase):
    def check(self, text, texts, edges, script=EMPTY):
        system, places = explore(script, parse_process(text))
        self.assertIsInstance(system, System)
        self.assertIsInstance(places, list)
        self.assertEqual([show_process(place) for place in places], texts)
        self.assertEqual(system.count, len(texts))
        self.assertEqual(system.edges, tuple(edges))

    def too_large(self, due, *arguments, **options):
        with self.assertRaises(errors.TooLarge) as caught:
            explore(*arguments, **options)
        self.assertEqual(caught.exception.limit, due)

    def test_one_state(self):
        self.check("stop", ["stop"], [])
        self.check("P", ["P"], [(0, "a", 0)], parse_script("P = a -> P"))

    def test_order_of_the_states(self):
        self.check(
            "b -> a -> stop + a -> skip + a -> (c -> skip)",
            ["b -> a -> stop + a -> skip + a -> c -> skip", "c -> skip", "skip", "a -> stop", "stop"],
            [(0, "a", 1), (0, "a", 2), (0, "b", 3), (1, "c", 2), (2, "tick", 4), (3, "a", 4)],
        )

    def test_a_name_and_its_process_are_two_states(self):
        self.check("b -> P", ["b -> P", "P", "Q", "a -> Q"], [
            (0, "b", 1), (1, "a", 2), (1, "c", 3), (2, "a", 2), (3, "a", 2),
        ], parse_script("P = a -> Q + c -> a -> Q\nQ = a -> Q"))

    def test_pair_is_a_tuple(self):
        pair = explore(EMPTY, STOP)
        self.assertIsInstance(pair, tuple)
        self.assertEqual(pair, (System(1, []), [STOP]))

    def test_limits(self):
        script = parse_script("P = a -> b -> c -> P")
        for limit in (3, 4, 2000, 20000):
            self.assertEqual(explore(script, ("name", "P"), limit=limit)[0].count, 3)
        for limit in (1, 2):
            self.too_large(limit, script, ("name", "P"), limit=limit)
        self.assertEqual(explore(EMPTY, STOP, limit=1)[0].count, 1)

    def test_default_limit(self):
        lines = [f"P{number} = " + "a -> " * 19 + f"P{number + 1}" for number in range(59)]
        script = parse_script("\n".join(lines + ["P59 = stop"]))
        self.assertEqual(explore(script, ("name", "P0"))[0].count, 59 * 19 + 1)
        three = parse_process(" <> ".join("a -> b -> c -> d -> e -> f -> g -> h -> i -> j -> k -> stop" for _ in range(3)))
        self.assertEqual(explore(EMPTY, three)[0].count, 1728)
        four = parse_process(" <> ".join("a -> b -> c -> d -> e -> f -> stop" for _ in range(4)))
        self.too_large(2000, EMPTY, four)
        self.too_large(2400, EMPTY, four, limit=2400)
        self.assertEqual(explore(EMPTY, four, limit=2401)[0].count, 2401)

    def test_unknown_names(self):
        for process in ("a -> (Z + Y)", "Y", "stop ; (Y | Z)"):
            with self.assertRaises(errors.UnknownName) as caught:
                explore(parse_script("P = stop"), parse_process(process), limit=1)
            self.assertEqual(caught.exception.name, "Y")
        with self.assertRaises(errors.UnknownName):
            explore(EMPTY, ("external", crossed(69, 29), ("name", "X")))

    def test_which_of_the_two_limits_comes_first(self):
        over = ("prefix", "b", crossed(69, 29))
        self.too_large(1, EMPTY, over, limit=1)
        for limit in (2, 3, 5000):
            self.too_large(2000, EMPTY, over, limit=limit)
        # The state behind "c" has too many steps, but the states behind "b" come before it.
        later = ("external", ("prefix", "b", choice("a", 40, STOP)), ("prefix", "c", crossed(69, 29)))
        self.too_large(10, EMPTY, later, limit=10)
        self.too_large(2000, EMPTY, later, limit=100)
        earlier = ("external", ("prefix", "c", choice("a", 40, STOP)), ("prefix", "b", crossed(69, 29)))
        self.too_large(2000, EMPTY, earlier, limit=10)

    def test_limit_after_the_steps_of_a_state(self):
        self.too_large(1999, EMPTY, crossed(50, 40), limit=1999)
        self.too_large(2000, EMPTY, crossed(50, 40), limit=2000)

    def test_deep_states(self):
        script, process = tower()
        system, places = explore(script, process)
        self.assertEqual(system.count, len(places))
        self.assertEqual(len([edge for edge in system.edges if edge[1] == "tau"]), 5)

    def test_many_states(self):
        process = parse_process("(" + " <> ".join(f"a{number} -> stop" for number in range(14)) + ") [a0=a1]")
        system, places = explore(EMPTY, process, limit=20000)
        self.assertEqual((system.count, len(system.edges)), (2**14, 14 * 2**13))
        self.assertEqual(len(places), 2**14)

    def test_random_processes(self):
        source = random.Random(9)
        many = 0
        while many < 200:
            pairs = [(name, naive.random_process(source, ("P", "Q", "R"), 5)) for name in ("P", "Q", "R")]
            if naive.first_fault(pairs) is not None:
                continue
            many += 1
            expected = naive.explored(dict(pairs), ("name", "P"), 60)
            if expected is None:
                self.too_large(60, Script(pairs), ("name", "P"), limit=60)
            else:
                system, places = explore(Script(pairs), ("name", "P"), limit=60)
                self.assertEqual(places, expected[0])
                self.assertEqual(system.edges, tuple(sorted(expected[1])))

    def test_returned_list_is_new(self):
        explore(EMPTY, STOP)[1].clear()
        self.assertEqual(explore(EMPTY, STOP)[1], [STOP])


if __name__ == "__main__":
    unittest.main()
