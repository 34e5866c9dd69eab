"""Runs, traces, divergences and offers (points 17 to 19)."""

import random
import unittest

import naive_systems as naive
from parley import errors
from parley.behaviours import (
    after, closure, diverges, diverging, is_behaviour, is_divergence, is_trace, stable_offers, states_after, traces_up_to,
)
from parley.systems import System

CHAIN = System(6, [(0, "tau", 2), (2, "tau", 1), (2, "a", 3), (1, "b", 4), (3, "tau", 5), (5, "tick", 5)])
CIRCLE = System(6, [(0, "tau", 1), (1, "tau", 2), (2, "tau", 1), (2, "a", 3), (3, "tau", 4), (5, "tau", 0)])


class StatesTest(unittest.TestCase):
    def test_closure(self):
        self.assertEqual(closure(CHAIN, [0]), (0, 1, 2))
        self.assertEqual(closure(CHAIN, (3,)), (3, 5))
        self.assertEqual(closure(CHAIN, [4]), (4,))
        self.assertEqual(closure(CHAIN, []), ())
        self.assertEqual(closure(CHAIN, [5, 3, 4, 3]), (3, 4, 5))
        self.assertEqual(closure(CIRCLE, [2]), (1, 2))
        self.assertEqual(closure(CIRCLE, (5, 3)), (0, 1, 2, 3, 4, 5))
        self.assertEqual(closure(System(1, [(0, "tau", 0)]), [0]), (0,))
        # The order of the numbers counts, not the order in which the states are found.
        self.assertEqual(closure(System(40, [(33, "tau", 16), (8, "tau", 39)]), [33, 8, 1, 0]), (0, 1, 8, 16, 33, 39))

    def test_after(self):
        self.assertEqual(after(CHAIN, (0, 1, 2), "a"), (3, 5))
        self.assertEqual(after(CHAIN, (0, 1, 2), "b"), (4,))
        # The states that are passed are not closed before.
        self.assertEqual(after(CHAIN, (0,), "a"), ())
        self.assertEqual(after(CHAIN, (5,), "tick"), (5,))
        self.assertEqual(after(CHAIN, (), "a"), ())
        self.assertEqual(after(CIRCLE, (1, 2), "a"), (3, 4))

    def test_states_after(self):
        self.assertEqual(states_after(CHAIN, ()), (0, 1, 2))
        self.assertEqual(states_after(CHAIN, ("a",)), (3, 5))
        self.assertEqual(states_after(CHAIN, ("a", "tick", "tick")), (5,))
        self.assertEqual(states_after(CHAIN, ("b",)), (4,))
        self.assertEqual(states_after(CHAIN, ("b", "b")), ())
        self.assertEqual(states_after(CHAIN, ("c", "a")), ())
        self.assertEqual(states_after(CIRCLE, ()), (0, 1, 2))
        self.assertEqual(states_after(CIRCLE, ("a",)), (3, 4))
        self.assertEqual(states_after(System(1, []), ()), (0,))

    def test_is_trace(self):
        for trace in ((), ("a",), ("b",), ("a", "tick"), ("a", "tick", "tick", "tick")):
            self.assertIs(is_trace(CHAIN, trace), True, trace)
        for trace in (("c",), ("tick",), ("a", "a"), ("b", "a"), ("a", "tick", "a"), ("zzz", "a")):
            self.assertIs(is_trace(CHAIN, trace), False, trace)

    def test_stable_offers(self):
        self.assertEqual(stable_offers(CHAIN, ()), [("b",)])
        self.assertEqual(stable_offers(CHAIN, ("a",)), [("tick",)])
        self.assertEqual(stable_offers(CHAIN, ("b",)), [()])
        self.assertEqual(stable_offers(CHAIN, ("b", "b")), [])
        self.assertEqual(stable_offers(CIRCLE, ()), [])
        self.assertEqual(stable_offers(CIRCLE, ("a",)), [()])

    def test_equal_offers_count_once_and_are_ascending(self):
        edges = [(0, "tau", state) for state in range(1, 7)]
        edges += [(1, "b", 0), (2, "a", 0), (2, "c", 1), (3, "b", 2), (4, "a", 0), (5, "a", 1), (5, "tick", 1), (5, "b", 2)]
        self.assertEqual(stable_offers(System(7, edges), ()), [(), ("a",), ("a", "b", "tick"), ("a", "c"), ("b",)])


class DivergenceTest(unittest.TestCase):
    def test_on_a_cycle_before_it_and_behind_it(self):
        self.assertEqual([diverges(CIRCLE, state) for state in range(6)], [True, True, True, False, False, True])
        self.assertEqual(diverging(CIRCLE), (0, 1, 2, 5))
        self.assertIs(diverges(CIRCLE, 1), True)
        self.assertIs(diverges(CIRCLE, 3), False)

    def test_edge_from_a_state_to_itself(self):
        system = System(4, [(0, "tau", 1), (1, "tau", 1), (1, "tau", 2), (3, "a", 0)])
        self.assertEqual(diverging(system), (0, 1))
        self.assertEqual([diverges(system, state) for state in range(4)], [True, True, False, False])

    def test_no_divergence(self):
        self.assertEqual(diverging(CHAIN), ())
        self.assertEqual(diverging(naive.ring("tau", "a")), ())
        # Many ways, but each one ends.
        system = System(4, [(0, "tau", 1), (0, "tau", 2), (0, "tau", 3), (1, "tau", 2), (1, "tau", 3), (2, "tau", 3)])
        self.assertEqual(diverging(system), ())
        self.assertEqual([diverges(system, state) for state in range(4)], [False] * 4)

    def test_is_divergence(self):
        system = System(4, [(0, "a", 1), (0, "a", 2), (1, "tau", 1), (1, "b", 3), (2, "c", 3)])
        self.assertIs(is_divergence(system, ("a",)), True)
        for trace in ((), ("a", "b"), ("a", "c"), ("b",), ("a", "a")):
            self.assertIs(is_divergence(system, trace), False, trace)
        self.assertIs(is_divergence(CIRCLE, ()), True)
        self.assertIs(is_divergence(CIRCLE, ("a",)), False)


class BehaviourTest(unittest.TestCase):
    def test_traces(self):
        self.assertIs(is_behaviour(CHAIN, ("trace", ())), True)
        self.assertIs(is_behaviour(CHAIN, ("trace", ("a", "tick"))), True)
        self.assertIs(is_behaviour(CHAIN, ("trace", ("a", "b"))), False)

    def test_divergences(self):
        self.assertIs(is_behaviour(CIRCLE, ("divergence", ())), True)
        self.assertIs(is_behaviour(CIRCLE, ("divergence", ("a",))), False)
        self.assertIs(is_behaviour(CIRCLE, ("divergence", ("b",))), False)

    def test_failures(self):
        self.assertIs(is_behaviour(CHAIN, ("failure", (), ("b",))), True)
        self.assertIs(is_behaviour(CHAIN, ("failure", ("b",), ())), True)
        for row in ((), ("a",), ("a", "b"), ("b", "c")):
            self.assertIs(is_behaviour(CHAIN, ("failure", (), row)), False, row)
        self.assertIs(is_behaviour(CHAIN, ("failure", ("b", "b"), ())), False)
        self.assertIs(is_behaviour(CIRCLE, ("failure", (), ("a",))), False)


class TracesTest(unittest.TestCase):
    def too_large(self, due, *arguments, **options):
        with self.assertRaises(errors.TooLarge) as caught:
            traces_up_to(*arguments, **options)
        self.assertEqual(caught.exception.limit, due)

    def test_lengths(self):
        self.assertEqual(traces_up_to(CHAIN, 0), [()])
        self.assertEqual(traces_up_to(CHAIN, 1), [(), ("a",), ("b",)])
        self.assertEqual(traces_up_to(CHAIN, 3), [
            (), ("a",), ("b",), ("a", "tick"), ("a", "tick", "tick"),
        ])
        self.assertEqual(traces_up_to(System(1, []), 5), [()])

    def test_order(self):
        system = System(2, [(0, "b", 0), (0, "a", 1), (0, "tick", 0), (1, "c", 0)])
        self.assertEqual(traces_up_to(system, 2), [
            (), ("a",), ("b",), ("tick",),
            ("a", "c"), ("b", "a"), ("b", "b"), ("b", "tick"), ("tick", "a"), ("tick", "b"), ("tick", "tick"),
        ])

    def test_each_trace_once(self):
        system = System(3, [(0, "a", 1), (0, "a", 2), (0, "tau", 1), (1, "a", 0), (2, "a", 0)])
        self.assertEqual(traces_up_to(system, 3), [(), ("a",), ("a", "a"), ("a", "a", "a")])

    def test_negative_length(self):
        for length in (-1, -10**30):
            with self.assertRaises(errors.BadArgument):
                traces_up_to(CHAIN, length)
            with self.assertRaises(errors.BadArgument):
                traces_up_to(CHAIN, length, limit=1)

    def test_limits(self):
        two = System(1, [(0, "a", 0), (0, "b", 0)])
        self.assertEqual(len(traces_up_to(two, 3, limit=15)), 15)
        self.assertEqual(len(traces_up_to(two, 3, limit=16)), 15)
        self.too_large(14, two, 3, limit=14)
        self.too_large(1, two, 3, limit=1)
        self.assertEqual(traces_up_to(two, 0, limit=1), [()])
        self.assertEqual(len(traces_up_to(two, 12)), 8191)
        self.too_large(10000, two, 13)

    def test_huge_lengths(self):
        self.assertEqual(traces_up_to(naive.line("a", "b"), 10**30), [(), ("a",), ("a", "b")])
        self.too_large(10000, System(1, [(0, "a", 0)]), 10**30)
        self.too_large(10000, System(1, [(0, "a", 0), (0, "b", 0)]), 10**30)
        self.assertEqual(len(traces_up_to(System(1, [(0, "a", 0)]), 2000)), 2001)

    def test_returned_list_is_new(self):
        traces_up_to(CHAIN, 1).clear()
        stable_offers(CHAIN, ()).clear()
        self.assertEqual(len(traces_up_to(CHAIN, 1)), 3)
        self.assertEqual(stable_offers(CHAIN, ()), [("b",)])


class ManySystemsTest(unittest.TestCase):
    def test_random_systems(self):
        source = random.Random(17)
        for _ in range(300):
            system = naive.random_system(source, 5, 9)
            found = traces_up_to(system, 3)
            self.assertEqual(found, naive.traces(system, 3))
            self.assertEqual(diverging(system), tuple(at for at in range(system.count) if naive.diverges(system, at)))
            for state in range(system.count):
                self.assertEqual(diverges(system, state), naive.diverges(system, state))
            for trace in found + [("b", "tick"), ("a", "a", "a", "b")]:
                states = naive.states_after(system, trace)
                self.assertEqual(states_after(system, trace), tuple(sorted(states)))
                self.assertEqual(stable_offers(system, trace), naive.stable_offers(system, states))
                self.assertEqual(is_divergence(system, trace), naive.any_diverges(system, states))
                self.assertEqual(is_trace(system, trace), bool(states))
                for behaviour in naive.behaviours_at(system, trace):
                    self.assertIs(is_behaviour(system, behaviour), True)

    def test_states_and_lists_are_not_changed(self):
        states = [2, 0, 2]
        closure(CHAIN, states)
        self.assertEqual(states, [2, 0, 2])


class LargeTest(unittest.TestCase):
    def test_chains(self):
        taus, events = naive.line(*["tau"] * 9999), naive.line(*["a"] * 9999)
        self.assertEqual(closure(taus, [0]), tuple(range(10000)))
        self.assertEqual(states_after(taus, ()), tuple(range(10000)))
        self.assertEqual(stable_offers(taus, ()), [()])
        self.assertEqual((diverging(taus), diverges(taus, 0), is_divergence(taus, ())), ((), False, False))
        self.assertEqual(states_after(events, ("a",) * 9999), (9999,))
        self.assertIs(is_trace(events, ("a",) * 10000), False)
        self.assertEqual(len(traces_up_to(events, 1000)), 1001)

    def test_rings(self):
        ring = naive.ring(*["tau"] * 20000)
        self.assertEqual(diverging(ring), tuple(range(20000)))
        self.assertIs(diverges(ring, 19999), True)
        self.assertEqual(stable_offers(ring, ()), [])
        self.assertEqual(traces_up_to(ring, 10**9), [()])


if __name__ == "__main__":
    unittest.main()
