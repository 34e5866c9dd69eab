"""Systems side by side, hiding and renaming (point 15)."""

import random
import unittest

import naive
from parley import errors
from parley.combining import hidden, renamed, side_by_side
from parley.systems import System

ACTIONS = ("a", "b", "c", "tau", "tick")


def random_system(source):
    count = source.randint(1, 5)
    edges = [
        (source.randrange(count), source.choice(ACTIONS), source.randrange(count))
        for _ in range(source.randint(0, 10))
    ]
    return System(count, edges)


def line(*actions):
    """A system that does the actions one after another."""
    return System(len(actions) + 1, [(at, action, at + 1) for at, action in enumerate(actions)])


class SideBySideTest(unittest.TestCase):
    def check(self, first, second, events, count, edges):
        system = side_by_side(first, second, events)
        self.assertIsInstance(system, System)
        self.assertEqual((system.count, system.edges), (count, tuple(edges)))

    def too_large(self, due, *arguments, **options):
        with self.assertRaises(errors.TooLarge) as caught:
            side_by_side(*arguments, **options)
        self.assertEqual(caught.exception.limit, due)

    def test_nothing_together(self):
        self.check(line("a"), line("b"), (), 4, [(0, "a", 1), (0, "b", 2), (1, "b", 3), (2, "a", 3)])
        self.check(line("a"), line("a"), (), 4, [(0, "a", 1), (0, "a", 2), (1, "a", 3), (2, "a", 3)])

    def test_shared_events(self):
        self.check(line("a", "b"), line("a", "c"), ("a",), 5, [
            (0, "a", 1), (1, "b", 2), (1, "c", 3), (2, "c", 4), (3, "b", 4),
        ])
        self.check(line("a"), line("b"), ("a", "b"), 1, [])
        self.check(line("a"), line("b"), ("a",), 2, [(0, "b", 1)])
        self.check(line("b"), line("a"), ("a",), 2, [(0, "b", 1)])
        self.check(line("a"), line("a"), ("a", "zzz"), 2, [(0, "a", 1)])

    def test_each_along_each_of_its_own_edges(self):
        two = System(3, [(0, "a", 1), (0, "a", 2)])
        self.check(two, two, ("a",), 5, [(0, "a", 1), (0, "a", 2), (0, "a", 3), (0, "a", 4)])

    def test_tick_is_done_together(self):
        self.check(line("tick"), line("tick"), (), 2, [(0, "tick", 1)])
        self.check(line("tick"), line("a"), (), 2, [(0, "a", 1)])
        self.check(line("a", "tick"), line("tick", "b"), (), 4, [(0, "a", 1), (1, "tick", 2), (2, "b", 3)])
        two = System(3, [(0, "tick", 1), (0, "tick", 2)])
        self.check(two, line("tick"), ("a",), 3, [(0, "tick", 1), (0, "tick", 2)])

    def test_tau_is_done_alone(self):
        self.check(line("tau"), line("tau"), ("a",), 4, [(0, "tau", 1), (0, "tau", 2), (1, "tau", 3), (2, "tau", 3)])

    def test_equal_edges_count_once(self):
        loop = System(1, [(0, "a", 0)])
        self.check(loop, loop, (), 1, [(0, "a", 0)])

    def test_order_of_the_numbers(self):
        first = System(4, [(0, "b", 3), (0, "b", 1), (1, "a", 2)])
        second = System(3, [(0, "c", 2), (0, "a", 1), (0, "b", 1)])
        self.check(first, second, (), 12, naive.side_by_side(first, second, ())[1])
        # The pairs behind "b" are (0, 1), (1, 0) and (3, 0), in this order.
        self.assertEqual(side_by_side(first, second, ()).leaving(0), [("a", 1), ("b", 1), ("b", 2), ("b", 3), ("c", 4)])

    def test_only_reached_pairs(self):
        self.check(System(3, [(1, "a", 2)]), System(3, [(2, "b", 1)]), (), 1, [])

    def test_limits(self):
        ten = line(*["a"] * 9)
        for limit in (100, 101, 20000):
            self.assertEqual(side_by_side(ten, ten, (), limit=limit).count, 100)
        for limit in (99, 50, 1):
            self.too_large(limit, ten, ten, (), limit=limit)
        self.assertEqual(side_by_side(ten, ten, ("a",), limit=10).count, 10)
        self.too_large(9, ten, ten, ("a",), limit=9)
        self.assertEqual(side_by_side(System(5, []), ten, ("a",), limit=1).count, 1)

    def test_limit_of_pairs_that_one_action_reaches(self):
        three = System(3, [(0, "a", 0), (0, "a", 1), (0, "a", 2)])
        self.assertEqual(side_by_side(three, three, ("a",), limit=9).count, 9)
        self.too_large(8, three, three, ("a",), limit=8)

    def test_default_limit(self):
        left, right = line(*["a"] * 199), line(*["b"] * 99)
        self.assertEqual(side_by_side(left, right, ()).count, 20000)
        self.too_large(20000, line(*["a"] * 200), right, ())

    def test_millions_of_pairs_are_refused_at_once(self):
        wide = System(20000, [(0, "a", state) for state in range(20000)])
        self.too_large(20000, wide, wide, ("a",))
        self.too_large(7, wide, wide, ("a",), limit=7)

    def test_random_systems(self):
        source = random.Random(10)
        for _ in range(300):
            first, second = random_system(source), random_system(source)
            events = tuple(event for event in ("a", "b", "c") if source.random() < 0.5)
            self.check(first, second, events, *naive.side_by_side(first, second, events))


class RelabellingTest(unittest.TestCase):
    def setUp(self):
        self.system = System(5, [(0, "a", 1), (0, "b", 1), (1, "tau", 2), (2, "tick", 3), (4, "a", 0), (1, "c", 2)])

    def test_hidden(self):
        self.assertEqual(hidden(self.system, ("a", "b")).edges, (
            (0, "tau", 1), (1, "c", 2), (1, "tau", 2), (2, "tick", 3), (4, "tau", 0),
        ))
        self.assertEqual(hidden(self.system, ("c",)).edges, (
            (0, "a", 1), (0, "b", 1), (1, "tau", 2), (2, "tick", 3), (4, "a", 0),
        ))
        self.assertEqual(hidden(self.system, ()), self.system)
        self.assertEqual(hidden(self.system, ("zzz",)), self.system)

    def test_renamed(self):
        self.assertEqual(renamed(self.system, (("a", "b"),)).edges, (
            (0, "b", 1), (1, "c", 2), (1, "tau", 2), (2, "tick", 3), (4, "b", 0),
        ))
        self.assertEqual(renamed(self.system, (("a", "b"), ("b", "a"))).edges, (
            (0, "a", 1), (0, "b", 1), (1, "c", 2), (1, "tau", 2), (2, "tick", 3), (4, "b", 0),
        ))
        self.assertEqual(renamed(self.system, (("zzz", "a"),)), self.system)
        self.assertEqual(renamed(self.system, (("a", "a"),)), self.system)

    def test_numbers_of_the_states_are_kept(self):
        self.assertEqual(hidden(self.system, ("a",)).count, 5)
        self.assertEqual(renamed(self.system, (("a", "c"),)).count, 5)

    def test_arguments_are_not_changed(self):
        before = self.system.edges
        hidden(self.system, ("a",))
        renamed(self.system, (("a", "b"),))
        side_by_side(self.system, self.system, ("a",))
        self.assertEqual((self.system.count, self.system.edges), (5, before))


if __name__ == "__main__":
    unittest.main()
