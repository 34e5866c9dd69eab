"""Systems, their offers and their reached parts (points 12, 14 and 18)."""

import random
import unittest

from parley import errors
from parley.systems import System, is_action, reached

EDGES = [(2, "tick", 1), (0, "b", 2), (0, "a", 2), (0, "tau", 1), (0, "a", 1), (0, "b", 2), (1, "tau", 1), (2, "c", 0)]


class ActionTest(unittest.TestCase):
    def test_actions(self):
        for word in ("tau", "tick", "a", "z9", "abcdefghijkl", "pass"):
            self.assertIs(is_action(word), True, word)

    def test_no_actions(self):
        for word in ("", "stop", "skip", "true", "loops", "A", "1", "abcdefghijklm", "a b", "Tau", "tau ", "\u00e4"):
            self.assertIs(is_action(word), False, word)


class SystemTest(unittest.TestCase):
    def setUp(self):
        self.system = System(4, EDGES)

    def bad(self, count, edges):
        with self.assertRaises(errors.BadSystem):
            System(count, edges)

    def test_methods_stand_in_the_class(self):
        for name in ("leaving", "targets", "offers", "is_stable", "events", "__eq__"):
            self.assertIn(name, vars(System))

    def test_fields(self):
        self.assertEqual(self.system.count, 4)
        self.assertEqual(self.system.edges, (
            (0, "a", 1), (0, "a", 2), (0, "b", 2), (0, "tau", 1), (1, "tau", 1), (2, "c", 0), (2, "tick", 1),
        ))
        self.assertIsInstance(self.system.edges, tuple)

    def test_leaving(self):
        self.assertEqual(self.system.leaving(0), [("a", 1), ("a", 2), ("b", 2), ("tau", 1)])
        self.assertEqual(self.system.leaving(1), [("tau", 1)])
        self.assertEqual(self.system.leaving(2), [("c", 0), ("tick", 1)])
        self.assertEqual(self.system.leaving(3), [])

    def test_targets(self):
        self.assertEqual(self.system.targets(0, "a"), [1, 2])
        self.assertEqual(self.system.targets(0, "tau"), [1])
        self.assertEqual(self.system.targets(2, "tick"), [1])
        self.assertEqual(self.system.targets(0, "c"), [])
        self.assertEqual(self.system.targets(3, "a"), [])
        self.assertEqual(System(30, [(0, "a", 10), (0, "a", 9), (0, "a", 2)]).targets(0, "a"), [2, 9, 10])

    def test_offers_and_stable_states(self):
        self.assertEqual([self.system.offers(state) for state in range(4)], [("a", "b"), (), ("c", "tick"), ()])
        self.assertEqual([self.system.is_stable(state) for state in range(4)], [False, False, True, True])
        self.assertIs(self.system.is_stable(3), True)
        self.assertIs(self.system.is_stable(0), False)
        self.assertEqual(System(1, [(0, "tick", 0), (0, "z", 0), (0, "tau1", 0)]).offers(0), ("tau1", "tick", "z"))

    def test_events(self):
        self.assertEqual(self.system.events(), ("a", "b", "c"))
        self.assertEqual(System(2, [(0, "tau", 1), (1, "tick", 1)]).events(), ())
        self.assertEqual(System(2, [(1, "b", 1), (1, "a", 1)]).events(), ("a", "b"))

    def test_states_that_there_are_not(self):
        for state in (4, 5, 10**30, -1, -4, -5):
            for call in (
                lambda: self.system.leaving(state),
                lambda: self.system.targets(state, "a"),
                lambda: self.system.offers(state),
                lambda: self.system.is_stable(state),
            ):
                with self.assertRaises(errors.BadArgument):
                    call()

    def test_numbers_of_states(self):
        for count in (0, -1, 20001, 10**30):
            self.bad(count, [])
        self.assertEqual(System(1, []).count, 1)
        self.assertEqual(System(20000, [(19999, "a", 0)]).leaving(19999), [("a", 0)])
        self.bad(20001, [(20000, "a", 0)])

    def test_edges_that_cannot_be(self):
        for edge in ((3, "a", 0), (0, "a", 3), (-1, "a", 0), (0, "a", -1), (10**30, "a", 0)):
            self.bad(3, [(0, "a", 1), edge])
        for word in ("", "stop", "skip", "true", "loops", "A", "a b", "Tick", "abcdefghijklm", "1"):
            self.bad(3, [(0, "a", 1), (1, word, 2)])

    def test_equality(self):
        self.assertTrue(self.system == System(4, EDGES[::-1] + EDGES))
        self.assertFalse(self.system != System(4, list(EDGES)))
        self.assertFalse(self.system == System(5, EDGES))
        self.assertFalse(self.system == System(4, EDGES[1:]))
        self.assertTrue(System(1, []) != System(2, []))
        self.assertIs(System(1, []) == System(1, []), True)
        self.assertFalse(System(1, []) == 1)
        self.assertFalse(System(1, []) == (1, ()))

    def test_the_list_is_copied_and_not_changed(self):
        edges = list(EDGES)
        system = System(4, edges)
        self.assertEqual(edges, EDGES)
        edges.append((3, "a", 3))
        edges[0] = (3, "b", 3)
        self.assertEqual(system, self.system)
        self.assertEqual(system.leaving(3), [])

    def test_returned_lists_are_new(self):
        self.system.leaving(0).clear()
        self.system.targets(0, "a").clear()
        self.system.targets(3, "a").append(1)
        self.assertEqual(len(self.system.leaving(0)), 4)
        self.assertEqual(self.system.targets(0, "a"), [1, 2])
        self.assertEqual(self.system.targets(3, "a"), [])


class ReachedTest(unittest.TestCase):
    def test_states_that_are_not_reached(self):
        system = System(5, [(0, "a", 3), (1, "a", 0), (3, "b", 0), (4, "c", 3), (2, "tau", 2)])
        self.assertEqual(reached(system), System(2, [(0, "a", 1), (1, "b", 0)]))

    def test_start_alone(self):
        self.assertEqual(reached(System(3, [(1, "a", 0), (1, "b", 2)])), System(1, []))
        self.assertEqual(reached(System(3, [(0, "a", 0)])), System(1, [(0, "a", 0)]))

    def test_order_by_action_and_then_by_old_number(self):
        system = System(6, [(0, "b", 1), (0, "a", 5), (0, "a", 4), (0, "tau", 2), (5, "a", 3)])
        expected = System(6, [(0, "a", 1), (0, "a", 2), (0, "b", 3), (0, "tau", 4), (2, "a", 5)])
        self.assertEqual(reached(system), expected)

    def test_breadth_comes_first(self):
        system = System(5, [(0, "a", 2), (0, "b", 1), (2, "a", 4), (1, "a", 3)])
        self.assertEqual(reached(system), System(5, [(0, "a", 1), (0, "b", 2), (1, "a", 3), (2, "a", 4)]))

    def test_a_long_chain(self):
        edges = [(state, "a", state - 1) for state in range(2, 20000)] + [(0, "a", 19999)]
        expected = [(state, "a", state + 1) for state in range(19999)]
        self.assertEqual(reached(System(20000, edges)).edges, tuple(expected))

    def test_the_reached_part_of_a_reached_part(self):
        source = random.Random(8)
        for _ in range(100):
            count = source.randint(1, 8)
            edges = [
                (source.randrange(count), source.choice(("a", "b", "tau", "tick")), source.randrange(count))
                for _ in range(source.randint(0, 12))
            ]
            once = reached(System(count, edges))
            self.assertEqual(reached(once), once)
            self.assertLessEqual(once.count, count)


if __name__ == "__main__":
    unittest.main()
