"""From systems back to scripts (point 56)."""

import random
import unittest

import naive_systems as naive
from naive_systems import line, ring
from parley import errors
from parley.equivalence import compare_strongly
from parley.exploring import explore
from parley.processes import is_name
from parley.scripting import script_of
from parley.scripts import Script
from parley.systems import System, reached
from parley.texts import format_script, parse_script


def star(many, action="a"):
    """A state with so many edges, to a few states that differ."""
    events = [f"e{at}" for at in range(many)]
    return [(0, event if action == "a" else action, 1 + at % 58) for at, event in enumerate(events)]


class ScriptingTest(unittest.TestCase):
    def check(self, system):
        found = script_of(system)
        self.assertIsInstance(found, tuple)
        script, name = found
        self.assertIsInstance(script, Script)
        self.assertTrue(is_name(name))
        self.assertLessEqual(len(script.definitions), 60)
        explored, _ = explore(script, ("name", name))
        self.assertEqual(compare_strongly(system, explored, limit=10**9)[0], "same")
        self.assertEqual(parse_script(format_script(script)).definitions, script.definitions)

    def raises(self, error, limit, system):
        with self.assertRaises(error) as caught:
            script_of(system)
        if limit is not None:
            self.assertEqual(caught.exception.limit, limit)

    def test_example(self):
        self.check(System(3, [(0, "a", 1), (0, "tau", 2), (1, "tick", 2)]))

    def test_small_systems(self):
        for system in (
            System(1, []), System(1, [(0, "a", 0)]), System(1, [(0, "tau", 0)]), line("tick"), line("tau"), line("tau", "tick"),
            ring("a", "tau", "b"), System(2, [(0, "a", 0), (0, "a", 1), (0, "tau", 0), (0, "tau", 1), (0, "tick", 1)]),
            System(4, [(0, "tick", 1), (0, "tick", 2), (0, "tau", 3), (3, "tick", 2), (3, "b", 0)]),
        ):
            self.check(system)

    def test_events_with_any_names(self):
        words = ["silent", "silent0", "silent1", "silent2", "start", "state0", "a", "hide", "x" * 12, "a0", "h", "tau0"]
        self.check(System(12, [(at, word, (at + 1) % 12) for at, word in enumerate(words)] + [(0, "tau", 5), (7, "tau", 2)]))

    def test_numbers_of_states(self):
        for word in ("a", "tau"):
            self.check(line(*[word] * 58))
            self.check(ring(*[word] * 59))
            self.raises(errors.TooLarge, 59, line(*[word] * 59))
            self.raises(errors.TooLarge, 59, ring(*[word] * 60))
        self.check(line(*["a"] * 57 + ["tick"]))
        self.raises(errors.TooLarge, 59, line(*["a"] * 58 + ["tick"]))

    def test_numbers_of_edges(self):
        self.check(System(59, star(200)))
        self.raises(errors.TooLarge, 200, System(59, star(201)))
        rows = [(0, action, state) for action in ("a", "b", "tau") for state in range(59)]
        self.check(System(59, rows + [(0, "c", state) for state in range(23)]))
        self.raises(errors.TooLarge, 200, System(59, rows + [(0, "c", state) for state in range(24)]))
        # Each of the states may have so many.
        few = [(state, f"e{at}", (state + at) % 3) for state in range(3) for at in range(200)]
        self.check(System(3, few))
        self.raises(errors.TooLarge, 200, System(3, few + [(2, "z", 0)]))

    def test_edges_behind_tick(self):
        self.raises(errors.BadSystem, None, line("tick", "a"))
        self.raises(errors.BadSystem, None, line("tick", "tau"))
        self.raises(errors.BadSystem, None, line("a", "tick", "tick"))
        self.raises(errors.BadSystem, None, System(1, [(0, "tick", 0)]))
        self.raises(errors.BadSystem, None, System(2, [(0, "a", 1), (1, "tick", 0)]))
        self.check(System(2, [(0, "tick", 1), (0, "a", 1)]))

    def test_order_of_the_errors(self):
        behind = [(0, "tick", 1), (1, "a", 1)]
        self.raises(errors.TooLarge, 59, System(60, star(201) + behind + [(at, "n", at + 1) for at in range(59)]))
        self.raises(errors.TooLarge, 200, System(59, star(201) + behind))
        self.raises(errors.TooLarge, 200, System(59, star(200) + behind))
        self.raises(errors.BadSystem, None, System(59, star(199) + behind))

    def test_only_the_reached_part_counts(self):
        self.check(System(19000, [(0, "a", 9)]))
        edges = [(1, f"e{at}", 2) for at in range(300)] + [(2, "tick", 1), (1, "tick", 1)]
        self.check(System(70, edges + [(0, "a", 0)]))
        self.check(System(3, [(1, "tick", 0), (0, "a", 2)]))

    def test_random_systems(self):
        source = random.Random(120)
        many = {"made": 0, "refused": 0}
        for _ in range(400):
            system = naive.random_system(source, 6, 12)
            part = reached(system)
            if any(action == "tick" and part.leaving(target) for _, action, target in part.edges):
                many["refused"] += 1
                self.raises(errors.BadSystem, None, system)
            else:
                many["made"] += 1
                self.check(system)
        self.assertGreater(min(many.values()), 50, many)

    def test_large_random_systems(self):
        source = random.Random(121)
        for _ in range(10):
            edges = [
                (source.randrange(59), source.choice(("a", "b", "tau", "c")), source.randrange(59)) for _ in range(3000)
            ]
            self.check(System(59, edges))

    def test_arguments_are_not_changed(self):
        system = ring("a", "tau")
        edges = system.edges
        script_of(system)
        self.assertEqual(system, System(2, edges))


if __name__ == "__main__":
    unittest.main()
