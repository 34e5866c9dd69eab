"""Soft classes and slim systems (points 38, 40 and 41a)."""

import random
import unittest

import naive_equivalence as equal
import naive_systems as naive
from parley import errors
from parley.refining import refines
from parley.softness import slim, soft_classes, soft_classes_after
from parley.systems import System, reached
from parley.weakness import compare_weakly

CHAIN = naive.line("a", "tau", "a")
# 1, 2 and 3 diverge.
LOOPING = System(5, [(0, "a", 1), (1, "tau", 2), (2, "tau", 2), (3, "tau", 1), (2, "b", 4)])


class RoundsTest(unittest.TestCase):
    def test_round_0(self):
        self.assertEqual(soft_classes_after(LOOPING, 0), [(0, 4), (1, 2, 3)])
        self.assertEqual(soft_classes_after(CHAIN, 0), [(0, 1, 2, 3)])
        self.assertEqual(soft_classes_after(naive.ring("tau", "tau"), 0), [(0, 1)])
        self.assertEqual(soft_classes_after(System(3, [(0, "tau", 1), (1, "tau", 0)]), 0), [(0, 1), (2,)])
        self.assertEqual(soft_classes_after(System(1, []), 0), [(0,)])

    def test_rounds(self):
        self.assertEqual(soft_classes_after(CHAIN, 1), [(0, 1, 2), (3,)])
        self.assertEqual(soft_classes_after(CHAIN, 2), [(0,), (1, 2), (3,)])
        for step in (3, 4, 1000, 10**30):
            self.assertEqual(soft_classes_after(CHAIN, step), [(0,), (1, 2), (3,)])
        self.assertEqual(soft_classes_after(LOOPING, 1), [(0,), (1, 2, 3), (4,)])

    def test_soft_steps_with_tau_count(self):
        # 0 may come to a state that does nothing, though it does what 3 does.
        system = System(5, [(0, "a", 1), (0, "tau", 2), (3, "a", 4)])
        self.assertEqual(soft_classes_after(system, 1), [(0, 3), (1, 2, 4)])
        self.assertEqual(soft_classes_after(system, 2), [(0,), (1, 2, 4), (3,)])

    def test_divergence_behind_a_step(self):
        # What 0 and 1 do differs only in where it may hang.
        system = System(5, [(0, "a", 2), (1, "a", 3), (2, "b", 4), (3, "b", 4), (3, "tau", 3)])
        self.assertEqual(soft_classes_after(system, 0), [(0, 1, 2, 4), (3,)])
        self.assertEqual(soft_classes(system), [(0,), (1,), (2,), (3,), (4,)])

    def test_soft_classes(self):
        self.assertEqual(soft_classes(CHAIN), [(0,), (1, 2), (3,)])
        self.assertEqual(soft_classes(naive.ring("a", "tau", "a")), [(0, 1, 2)])
        self.assertEqual(soft_classes(System(3, [])), [(0, 1, 2)])
        self.assertEqual(soft_classes(naive.ring("tau", "tau", "tau")), [(0, 1, 2)])

    def test_order_of_the_classes(self):
        system = System(13, [(12, "a", 2), (2, "tau", 10), (10, "b", 11), (9, "a", 10)])
        self.assertEqual(soft_classes(system), [(0, 1, 3, 4, 5, 6, 7, 8, 11), (2, 10), (9, 12)])

    def test_negative_numbers(self):
        for step in (-1, -(10**30)):
            for system in (CHAIN, System(2001, []), System(20000, [])):
                with self.assertRaises(errors.BadArgument):
                    soft_classes_after(system, step)

    def test_too_many_states(self):
        self.assertEqual(soft_classes_after(System(2000, []), 1), [tuple(range(2000))])
        self.assertEqual(soft_classes(System(2000, [])), [tuple(range(2000))])
        for call in (lambda: soft_classes_after(System(2001, []), 0), lambda: soft_classes(System(2001, []))):
            with self.assertRaises(errors.TooLarge) as caught:
                call()
            self.assertEqual(caught.exception.limit, 2000)

    def test_random_systems(self):
        source = random.Random(60)
        for _ in range(300):
            system = naive.random_system(source, 7, 12, ("a", "b", "tau", "tau"))
            for step in range(5):
                self.assertEqual(soft_classes_after(system, step), equal.soft_classes_after(system, step))
            self.assertEqual(soft_classes(system), equal.soft_classes(system))

    def test_larger_random_systems(self):
        source = random.Random(61)
        for _ in range(20):
            system = naive.random_system(source, 30, 60, ("a", "b", "tau"))
            for step in (0, 1, 2, 3, 4, 30):
                self.assertEqual(soft_classes_after(system, step), equal.soft_classes_after(system, step))

    def test_returned_lists_are_new(self):
        soft_classes(CHAIN).clear()
        soft_classes_after(CHAIN, 1).clear()
        self.assertEqual(len(soft_classes(CHAIN)), 3)


class SlimTest(unittest.TestCase):
    def test_example(self):
        system = System(4, [(0, "tau", 1), (1, "a", 2), (2, "tau", 3), (3, "tau", 2), (3, "b", 0)])
        self.assertEqual(slim(system), System(2, [(0, "a", 1), (1, "b", 0), (1, "tau", 1)]))

    def test_states_that_are_not_reached(self):
        self.assertEqual(slim(System(4, [(2, "a", 0), (1, "tau", 1)])), System(1, []))
        self.assertEqual(slim(System(5, [(0, "a", 3), (4, "b", 3), (3, "c", 0)])), System(2, [(0, "a", 1), (1, "c", 0)]))

    def test_divergence(self):
        self.assertEqual(slim(System(1, [(0, "tau", 0)])), System(1, [(0, "tau", 0)]))
        self.assertEqual(slim(naive.ring("tau", "tau", "tau")), System(1, [(0, "tau", 0)]))
        # A state that only leads to divergence diverges, too.
        self.assertEqual(slim(System(2, [(0, "tau", 1), (1, "tau", 1)])), System(1, [(0, "tau", 0)]))
        self.assertEqual(
            slim(System(2, [(0, "tau", 1), (0, "a", 1), (1, "tau", 1)])),
            System(2, [(0, "a", 1), (0, "tau", 0), (0, "tau", 1), (1, "tau", 1)]),
        )

    def test_tau_within_a_class_and_between_classes(self):
        self.assertEqual(slim(naive.line("tau", "tau", "a")), System(2, [(0, "a", 1)]))
        choice = System(4, [(0, "tau", 1), (0, "tau", 2), (1, "a", 3), (2, "b", 3)])
        self.assertEqual(slim(choice), System(4, [(0, "tau", 1), (0, "tau", 2), (1, "a", 3), (2, "b", 3)]))
        self.assertEqual(slim(System(3, [(0, "tau", 1), (0, "a", 2)])), System(2, [(0, "a", 1), (0, "tau", 1)]))

    def test_edges_of_all_states_of_a_class(self):
        # 0 and 1 are weakly equivalent, and the slim state has the edges of both.
        system = System(3, [(0, "tau", 1), (1, "a", 2), (0, "a", 2), (1, "b", 0)])
        self.assertEqual(slim(system), System(2, [(0, "a", 1), (0, "b", 0)]))
        self.assertEqual(slim(naive.ring("a", "tau")), System(1, [(0, "a", 0)]))

    def test_slim_systems_stay(self):
        for system in (System(1, []), naive.line("a", "b"), System(2, [(0, "a", 1), (1, "tau", 1)])):
            self.assertEqual(slim(system), system)
        # An edge that says nothing new stays, too.
        system = System(4, [(0, "a", 2), (0, "b", 3), (0, "tau", 1), (1, "a", 2), (3, "c", 3)])
        self.assertEqual(slim(system), reached(system))

    def test_numbering(self):
        # In the reached part 4 has the number 1, 2 the number 2 and 1 the number 3; 4 and 1 are of one class.
        system = System(6, [(0, "a", 4), (0, "b", 2), (0, "c", 1), (2, "a", 5), (4, "d", 5), (1, "d", 5), (5, "e", 3)])
        self.assertEqual(
            slim(system),
            System(5, [(0, "a", 1), (0, "b", 2), (0, "c", 1), (1, "d", 3), (2, "a", 3), (3, "e", 4)]),
        )
        # A class has its least number in the reached part: behind "b" the class of 3 comes first.
        system = System(5, [(0, "a", 3), (0, "b", 1), (0, "b", 2), (2, "c", 4), (3, "tau", 2), (1, "d", 4)])
        self.assertEqual(
            slim(system), System(4, [(0, "a", 1), (0, "b", 1), (0, "b", 2), (1, "c", 3), (2, "d", 3)]),
        )

    def test_too_many_states(self):
        # Only the reached part counts.
        self.assertEqual(slim(System(20000, [(0, "a", 7)])).count, 2)
        self.assertEqual(slim(naive.ring(*["a"] * 2000)), System(1, [(0, "a", 0)]))
        with self.assertRaises(errors.TooLarge) as caught:
            slim(naive.ring(*["a"] * 2001))
        self.assertEqual(caught.exception.limit, 2000)

    def test_random_systems(self):
        source = random.Random(62)
        for _ in range(300):
            system = naive.random_system(source, 6, 10)
            found = slim(system)
            self.assertEqual(found, equal.slim(reached(system)))
            self.assertTrue(equal.are_weakly_equivalent(system, found))
            self.assertEqual(compare_weakly(system, found)[0], "same")
            self.assertEqual(found.count, len(equal.soft_classes(reached(system))))
            self.assertEqual(reached(found), found)
            self.assertEqual(slim(found), found)

    def test_arguments_are_not_changed(self):
        edges = LOOPING.edges
        slim(LOOPING)
        self.assertEqual((LOOPING.count, LOOPING.edges), (5, edges))


class RefinementTest(unittest.TestCase):
    def test_slim_systems_refine_alike(self):
        """Point 41: replacing a system by its slim system changes no refinement in any model."""
        source = random.Random(63)
        words = {"yes": 0, "no": 0}
        for _ in range(300):
            first, second = naive.random_system(source), naive.random_system(source, 4, 5)
            for model in naive.MODELS:
                word, shown = refines(first, second, model)
                words[word] += 1
                for pair in ((slim(first), second), (first, slim(second)), (slim(first), slim(second))):
                    other = refines(*pair, model)
                    self.assertEqual(other[0], word)
                    if word == "no":
                        self.assertEqual(other[1], shown)
        self.assertGreater(min(words.values()), 100, words)


class LargeTest(unittest.TestCase):
    def test_chains(self):
        chain = naive.line(*["a"] * 1999)
        self.assertEqual(soft_classes_after(chain, 1000)[0], tuple(range(1000)))
        self.assertEqual(slim(chain), chain)
        self.assertEqual(soft_classes(naive.line(*["tau"] * 1999)), [tuple(range(2000))])
        mixed = naive.line(*["a", "tau"] * 999)
        self.assertEqual(slim(mixed), naive.line(*["a"] * 999))

    def test_very_many_soft_steps(self):
        # Each state of a chain of "tau" also leads to a chain of "b".
        edges = [(state, "tau", state + 1) for state in range(799)] + [(state, "a", state + 800) for state in range(800)]
        edges += [(state, "b", state + 1) for state in range(800, 1599)]
        self.assertEqual(len(soft_classes(System(1600, edges))), 1600)
        edges = [(state, "tau", state + 1) for state in range(999)] + [(state, f"e{state}", state) for state in range(1000)]
        self.assertEqual(len(soft_classes(System(1000, edges))), 1000)


if __name__ == "__main__":
    unittest.main()
