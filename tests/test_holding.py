"""Where formulas hold (point 29)."""

import random
import unittest

import naive_systems as naive
from parley import errors
from parley.formulas import parse_formula
from parley.holding import holds, satisfies, soft_targets, states_with
from parley.systems import System
from test_formulas import tower

# 0 does "a" to 1 and 2; from 1 edges with "tau" lead around 1 and 3, and "b" to 4; 2 ends; 5 is alone.
SYSTEM = System(6, [(0, "a", 1), (0, "a", 2), (1, "tau", 3), (3, "tau", 1), (3, "b", 4), (2, "tick", 4), (0, "tau", 2)])


class StatesTest(unittest.TestCase):
    def check(self, text, *states):
        formula = parse_formula(text)
        self.assertEqual(states_with(SYSTEM, formula), states, text)
        for state in range(SYSTEM.count):
            self.assertIs(holds(SYSTEM, state, formula), state in states)
        self.assertIs(satisfies(SYSTEM, formula), 0 in states)

    def test_true_and_not(self):
        self.check("true", 0, 1, 2, 3, 4, 5)
        self.check("!true")
        self.check("!<a> true", 1, 2, 3, 4, 5)
        self.check("!!<a> true", 0)

    def test_and_and_or(self):
        self.check("<tau> true & <b> true", 3)
        self.check("<tau> true & <a> true", 0)
        self.check("<b> true & <a> true")
        self.check("<b> true | <a> true", 0, 3)
        self.check("<b> true | <tau> true", 0, 1, 3)
        self.check("!true | !true")

    def test_can(self):
        self.check("<a> true", 0)
        self.check("<tau> true", 0, 1, 3)
        self.check("<tick> true", 2)
        self.check("<a> <tick> true", 0)
        self.check("<a> <b> true")
        self.check("<tau> <b> true", 1)
        self.check("<c> true")
        self.check("<a> !true")

    def test_must(self):
        self.check("[a] true", 0, 1, 2, 3, 4, 5)
        self.check("[a] <tick> true", 1, 2, 3, 4, 5)
        self.check("[a] (<tick> true | <tau> true)", 0, 1, 2, 3, 4, 5)
        self.check("[tau] !true", 2, 4, 5)
        self.check("[tau] <b> true", 1, 2, 4, 5)
        self.check("[tick] !true", 0, 1, 3, 4, 5)
        self.check("[c] !true", 0, 1, 2, 3, 4, 5)

    def test_might(self):
        self.check("<<b>> true", 1, 3)
        self.check("<<a>> <b> true", 0)
        self.check("<<a>> <<b>> true", 0)
        self.check("<<a>> <tick> true", 0)
        self.check("<<tick>> true", 0, 2)
        self.check("<<c>> true")

    def test_might_with_tau_holds_for_the_state_itself(self):
        self.check("<<tau>> true", 0, 1, 2, 3, 4, 5)
        self.check("<<tau>> <a> true", 0)
        self.check("<<tau>> <b> true", 1, 3)
        self.check("<<tau>> <tick> true", 0, 2)
        self.check("<<tau>> !<tau> true", 0, 2, 4, 5)

    def test_loops(self):
        self.check("loops", 1, 3)
        self.check("!loops", 0, 2, 4, 5)
        self.check("<a> loops", 0)
        self.check("[a] loops", 1, 2, 3, 4, 5)
        self.assertEqual(states_with(System(3, [(0, "tau", 1), (1, "tau", 1)]), ("loops",)), (0, 1))

    def test_one_state(self):
        self.assertEqual(states_with(System(1, []), parse_formula("[a] !true & [tau] !true")), (0,))
        self.assertEqual(states_with(System(1, [(0, "tau", 0)]), parse_formula("loops & <tau> loops")), (0,))

    def test_states_that_there_are_not(self):
        for state in (6, 7, -1, -6, 10**30, -(10**30)):
            for formula in (("true",), ("not", ("true",)), ("can", "a", ("loops",))):
                with self.assertRaises(errors.BadArgument):
                    holds(SYSTEM, state, formula)

    def test_random_formulas(self):
        source = random.Random(33)
        for _ in range(800):
            system = naive.random_system(source, 5, 9)
            formula = naive.random_formula(source, 5)
            expected = tuple(state for state in range(system.count) if naive.holds(system, state, formula))
            self.assertEqual(states_with(system, formula), expected)
            self.assertIs(satisfies(system, formula), 0 in expected)


class SoftTargetsTest(unittest.TestCase):
    def test_tau(self):
        self.assertEqual(soft_targets(SYSTEM, 0, "tau"), (0, 2))
        self.assertEqual(soft_targets(SYSTEM, 1, "tau"), (1, 3))
        self.assertEqual(soft_targets(SYSTEM, 5, "tau"), (5,))

    def test_events_with_tau_before_and_behind(self):
        self.assertEqual(soft_targets(SYSTEM, 0, "a"), (1, 2, 3))
        self.assertEqual(soft_targets(SYSTEM, 0, "tick"), (4,))
        self.assertEqual(soft_targets(SYSTEM, 1, "b"), (4,))
        self.assertEqual(soft_targets(SYSTEM, 0, "b"), ())
        self.assertEqual(soft_targets(SYSTEM, 5, "a"), ())
        system = System(8, [(0, "tau", 1), (1, "tau", 7), (7, "a", 2), (2, "tau", 3), (3, "tau", 4), (3, "a", 5), (0, "a", 6)])
        self.assertEqual(soft_targets(system, 0, "a"), (2, 3, 4, 6))
        self.assertEqual(soft_targets(system, 2, "a"), (5,))

    def test_random_systems(self):
        source = random.Random(34)
        for _ in range(300):
            system = naive.random_system(source, 5, 9)
            for state in range(system.count):
                for action in ("a", "b", "tau", "tick", "c"):
                    expected = tuple(sorted(naive.soft_targets(system, state, action)))
                    self.assertEqual(soft_targets(system, state, action), expected)


class LargeTest(unittest.TestCase):
    def test_high_formulas(self):
        ring = naive.ring("a", "tau")
        self.assertEqual(states_with(ring, tower(["can"], 6000)), ())
        self.assertEqual(states_with(ring, tower(["might"], 6000)), (0, 1))
        self.assertEqual(states_with(ring, tower(["not"], 6001)), ())
        self.assertEqual(states_with(ring, tower(["must"], 6000, ("not", ("true",)))), (0, 1))
        for kind, expected in (("and", (0,)), ("or", (0, 1))):
            left = right = ("true",)
            for _ in range(3000):
                left, right = (kind, left, ("can", "a", ("true",))), (kind, ("can", "a", ("true",)), right)
            self.assertEqual((states_with(ring, left), states_with(ring, right)), (expected, expected))

    def test_many_states(self):
        chain = naive.line(*["a"] * 4999)
        self.assertEqual(states_with(chain, tower(["can"], 3000)), tuple(range(2000)))
        self.assertIs(holds(chain, 4999, tower(["can"], 3000)), False)
        taus = naive.line(*["tau"] * 19999)
        self.assertEqual(states_with(taus, parse_formula("<<tau>> !<tau> true")), tuple(range(20000)))
        self.assertEqual(states_with(taus, ("loops",)), ())
        self.assertEqual(soft_targets(taus, 5000, "tau"), tuple(range(5000, 20000)))
        ring = naive.ring(*["tau"] * 20000)
        self.assertEqual(len(states_with(ring, parse_formula("loops & <tau> loops"))), 20000)


if __name__ == "__main__":
    unittest.main()
