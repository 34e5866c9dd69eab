"""Weak equivalence of two systems (points 38, 39 and 41)."""

import random
import unittest

import naive_equivalence as equal
import naive_systems as naive
from parley import errors
from parley.combining import hidden, renamed, side_by_side
from parley.equivalence import compare_strongly
from parley.sheets import is_sheet, sheet_depth, sheet_satisfies
from parley.softness import slim
from parley.systems import System
from parley.weakness import compare_weakly, is_weak_relation

STOP = System(1, [])
HANG = System(1, [(0, "tau", 0)])
DO = naive.line("a")
SOFT = naive.line("tau", "a")
# It may do "a", and it may decide to do nothing.
MAYBE = System(3, [(0, "a", 1), (0, "tau", 2)])


class CompareTest(unittest.TestCase):
    def same(self, first, second, relation):
        found = compare_weakly(first, second)
        self.assertEqual(found, ("same", relation))
        self.assertIsInstance(found[1], list)
        self.assertIs(is_weak_relation(first, second, relation), True)

    def different(self, first, second):
        found = compare_weakly(first, second)
        self.assertIsInstance(found, tuple)
        word, sheet = found
        many = first.count + second.count
        self.assertEqual(word, "different")
        self.assertIsInstance(sheet, tuple)
        self.assertIs(is_sheet(sheet), True)
        self.assertLessEqual({row[0] for row in sheet}, set(equal.WEAK_WORDS))
        self.assertIs(sheet_satisfies(first, sheet), True)
        self.assertIs(sheet_satisfies(second, sheet), False)
        self.assertLessEqual(len(sheet), many * many * (many + 3))

    def test_example(self):
        self.different(MAYBE, DO)
        self.different(DO, MAYBE)
        self.same(DO, SOFT, [(0, 0), (0, 1), (1, 2)])

    def test_equal_and_equivalent_systems(self):
        self.same(STOP, STOP, [(0, 0)])
        self.same(STOP, naive.line("tau", "tau"), [(0, 0), (0, 1), (0, 2)])
        self.same(MAYBE, MAYBE, [(0, 0), (1, 1), (1, 2), (2, 1), (2, 2)])
        self.same(naive.ring("a", "tau", "a"), System(1, [(0, "a", 0)]), [(0, 0), (1, 0), (2, 0)])
        self.same(System(2, []), System(2, [(1, "a", 1)]), [(0, 0), (1, 0)])

    def test_divergence(self):
        self.different(HANG, STOP)
        self.different(STOP, HANG)
        self.different(System(2, [(0, "a", 1), (1, "tau", 1)]), DO)
        self.different(DO, System(2, [(0, "a", 1), (1, "tau", 1)]))
        self.different(System(2, [(0, "a", 1), (0, "tau", 0)]), DO)
        self.same(HANG, naive.ring("tau", "tau"), [(0, 0), (0, 1)])
        self.same(HANG, System(2, [(0, "tau", 1), (1, "tau", 1)]), [(0, 0), (0, 1)])

    def test_different_systems(self):
        self.different(STOP, DO)
        self.different(DO, naive.line("tick"))
        first = System(4, [(0, "a", 1), (1, "b", 2), (1, "c", 3)])
        second = System(5, [(0, "a", 1), (0, "a", 2), (1, "b", 3), (2, "c", 4)])
        self.different(first, second)
        self.different(second, first)
        for many in (1, 2, 7):
            chain = naive.line(*["a", "tau"] * many)
            self.different(chain, naive.line(*["tau", "a"] * (many + 1)))
            self.assertEqual(compare_weakly(chain, naive.line(*["tau", "a"] * many))[0], "same")

    def too_large(self, due, *pair, **options):
        with self.assertRaises(errors.TooLarge) as caught:
            compare_weakly(*pair, **options)
        self.assertEqual(caught.exception.limit, due)

    def test_limits(self):
        ring = naive.ring("a", "a", "a")
        self.assertEqual(compare_weakly(ring, ring, limit=9)[0], "same")
        self.too_large(8, ring, ring, limit=8)
        self.assertEqual(compare_weakly(STOP, STOP, limit=1)[0], "same")
        self.assertEqual(compare_weakly(System(400, []), System(500, []))[0], "same")
        self.too_large(200000, System(401, []), System(499, []))

    def test_too_many_states_for_soft_classes(self):
        self.assertEqual(compare_weakly(System(1999, []), STOP)[0], "same")
        self.too_large(2000, System(2000, []), STOP)
        self.too_large(2000, STOP, System(19999, []))

    def test_order_of_the_errors(self):
        for options in ({}, {"limit": 1}, {"limit": 10**9}):
            with self.assertRaises(errors.BadSystem):
                compare_weakly(System(20000, []), STOP, **options)
        self.too_large(200000, System(1001, []), System(1000, []))
        self.too_large(1999, STOP, System(2000, []), limit=1999)
        self.too_large(2000, System(1001, []), System(1000, []), limit=1001000)

    def test_random_systems(self):
        source = random.Random(70)
        words = {"same": 0, "different": 0}
        for _ in range(400):
            first, second = naive.random_system(source), naive.random_system(source)
            if source.random() < 0.3:
                second = System(first.count, [edge for edge in first.edges if source.random() < 0.9])
            classes = equal.soft_classes(naive.beside(first, second))
            if any({0, first.count} <= set(states) for states in classes):
                self.same(first, second, equal.common_pairs(classes, first.count))
                words["same"] += 1
            else:
                self.different(first, second)
                words["different"] += 1
        self.assertGreater(min(words.values()), 100, words)

    def test_strongly_equivalent_systems_are_weakly_equivalent(self):
        source = random.Random(71)
        many = 0
        while many < 80:
            first, second = naive.random_system(source), naive.random_system(source, 4, 5)
            word, relation = compare_strongly(first, second)
            if word == "same":
                many += 1
                self.assertEqual(compare_weakly(first, second)[0], "same")
                self.assertIs(is_weak_relation(first, second, relation), True)

    def test_formulas_of_equivalent_states(self):
        """Point 39: the same formulas without "can" and "must" hold at weakly equivalent states."""
        source = random.Random(72)
        for _ in range(60):
            system = naive.random_system(source, 5, 8)
            for _ in range(20):
                formula = naive.random_formula(source, 5)
                if not {"can", "must"} & words_of(formula):
                    for states in equal.soft_classes(system):
                        self.assertEqual(len({naive.holds(system, state, formula) for state in states}), 1)

    def test_arguments_are_not_changed(self):
        edges = MAYBE.edges, DO.edges
        compare_weakly(MAYBE, DO)
        compare_weakly(DO, SOFT)[1].clear()
        self.assertEqual((MAYBE.edges, DO.edges, len(compare_weakly(DO, SOFT)[1])), (*edges, 3))


def words_of(formula):
    return {formula[0]}.union(*[words_of(part) for part in naive.parts(formula)])


class RelationTest(unittest.TestCase):
    def check(self, expected, first, second, relation):
        copy = list(relation)
        self.assertIs(is_weak_relation(first, second, copy), expected, relation)
        self.assertEqual(copy, relation)

    def test_right_relations(self):
        self.check(True, STOP, STOP, [(0, 0)])
        self.check(True, DO, SOFT, [(0, 0), (0, 1), (1, 2)])
        self.check(True, SOFT, DO, [(0, 0), (1, 0), (2, 1)])
        # It need not be the greatest.
        self.check(True, MAYBE, MAYBE, [(0, 0), (1, 1), (2, 2)])
        self.check(True, STOP, naive.line("tau"), [(0, 0), (0, 1)])

    def test_pairs_left_out(self):
        self.check(False, STOP, STOP, [])
        self.check(False, DO, SOFT, [(0, 1), (1, 2)])
        self.check(False, DO, SOFT, [(0, 0), (0, 1)])
        self.check(False, DO, SOFT, [(0, 0), (1, 2)])
        self.check(False, STOP, naive.line("tau"), [(0, 0)])

    def test_wrong_pairs(self):
        self.check(False, DO, SOFT, [(0, 0), (0, 1), (0, 2), (1, 2)])
        self.check(False, DO, naive.line("b"), [(0, 0), (1, 1)])
        self.check(False, MAYBE, DO, [(0, 0), (1, 1), (2, 0)])
        self.check(False, MAYBE, DO, [(0, 0), (1, 1), (2, 1)])
        self.check(False, STOP, DO, [(0, 0)])
        self.check(False, DO, STOP, [(0, 0), (1, 0)])

    def test_several_edges_with_one_action(self):
        fork = System(4, [(0, "a", 1), (0, "a", 2)])
        self.check(False, fork, fork, [(0, 0), (1, 3), (2, 1), (2, 2)])
        self.check(False, fork, fork, [(0, 0), (1, 2), (2, 2), (3, 1)])
        self.check(True, fork, fork, [(0, 0), (1, 2), (1, 3), (2, 1)])

    def test_divergence(self):
        self.check(False, HANG, STOP, [(0, 0)])
        self.check(False, STOP, HANG, [(0, 0)])
        self.check(True, HANG, naive.ring("tau", "tau"), [(0, 0), (0, 1)])
        self.check(True, HANG, System(2, [(0, "tau", 1), (1, "tau", 1)]), [(0, 0), (0, 1)])

    def test_doubled_and_turned_pairs(self):
        self.check(False, DO, SOFT, [(0, 0), (0, 0), (0, 1), (1, 2)])
        self.check(False, DO, SOFT, [(0, 0), (1, 0), (2, 1)])

    def test_lists_that_are_not_ascending(self):
        self.check(False, DO, SOFT, [(0, 1), (0, 0), (1, 2)])
        self.check(False, DO, SOFT, [(1, 2), (0, 1), (0, 0)])

    def test_states_that_there_are_not(self):
        for pair in ((-1, 0), (0, -1), (0, 3), (2, 0), (-1, -1), (10**30, 0), (0, -(10**30))):
            self.check(False, DO, SOFT, sorted([(0, 0), (0, 1), (1, 2), pair]))

    def test_random_systems(self):
        source = random.Random(73)
        many = [0, 0]
        for _ in range(400):
            first = naive.random_system(source, 4, 7, ("a", "b", "tau", "tau"))
            second = System(first.count, [edge for edge in first.edges if source.random() < 0.95])
            relation = equal.common_pairs(equal.soft_classes(naive.beside(first, second)), first.count)
            for drawn in equal.drawn_relations(source, relation, first, second, 4):
                expected = equal.is_relation(first, second, drawn, True)
                many[expected] += 1
                self.check(expected, first, second, drawn)
        self.assertGreater(min(many), 100, many)


class LawsTest(unittest.TestCase):
    def test_kept_by_putting_together(self):
        """Point 41."""
        source = random.Random(74)
        for _ in range(200):
            first, other = naive.random_system(source), naive.random_system(source)
            second = slim(first)
            events = tuple(event for event in ("a", "b") if source.random() < 0.5)
            pairs = tuple((old, source.choice(("a", "b", "c"))) for old in ("a", "b") if source.random() < 0.7)
            for change in (
                lambda system: side_by_side(system, other, events),
                lambda system: side_by_side(other, system, events),
                lambda system: hidden(system, events),
                lambda system: renamed(system, pairs),
            ):
                self.assertEqual(compare_weakly(change(first), change(second))[0], "same")
                self.assertEqual(slim(change(first)).count, slim(change(second)).count)

    def test_behaviours(self):
        source = random.Random(75)
        many = 0
        while many < 60:
            first, second = naive.random_system(source), naive.random_system(source, 3, 5)
            if compare_weakly(first, second)[0] == "same":
                many += 1
                for trace in naive.traces(System(1, [(0, "a", 0), (0, "b", 0), (0, "tick", 0)]), 3):
                    self.assertEqual(naive.behaviours_at(first, trace), naive.behaviours_at(second, trace))


class LargeTest(unittest.TestCase):
    def test_chains(self):
        chain, shorter = naive.line(*["a", "tau"] * 250), naive.line(*["a", "tau"] * 249)
        word, sheet = compare_weakly(chain, shorter, limit=10**6)
        self.assertEqual(word, "different")
        self.assertEqual((sheet_satisfies(chain, sheet), sheet_satisfies(shorter, sheet)), (True, False))
        self.assertGreaterEqual(sheet_depth(sheet), 250)
        self.assertEqual(compare_weakly(chain, chain, limit=10**6)[0], "same")

    def test_relations_of_large_systems(self):
        for word in ("a", "tau"):
            chain = naive.line(*[word] * 8000)
            relation = [(state, state) for state in range(8001)]
            self.assertIs(is_weak_relation(chain, chain, relation), True)
            self.assertIs(is_weak_relation(chain, chain, relation[:-1]), False)
        chain = System(8000, [(state, "tau", state + 1) for state in range(7999)] + [(7999, "a", 0)])
        everything = [(0, state) for state in range(8000)]
        self.assertIs(is_weak_relation(System(1, [(0, "a", 0)]), chain, everything), True)
        self.assertIs(is_weak_relation(System(1, [(0, "b", 0)]), chain, everything), False)
        star = System(10000, [(0, "a", state) for state in range(1, 10000)])
        self.assertIs(is_weak_relation(star, star, [(state, state) for state in range(10000)]), True)

    def test_rings_of_tau(self):
        word, relation = compare_weakly(naive.ring(*["tau"] * 1000), naive.ring(*["tau"] * 200))
        self.assertEqual((word, len(relation)), ("same", 200000))
        self.assertIs(is_weak_relation(naive.ring(*["tau"] * 1000), naive.ring(*["tau"] * 200), relation), True)


if __name__ == "__main__":
    unittest.main()
