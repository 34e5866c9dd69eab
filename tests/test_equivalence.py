"""Strong equivalence of two systems (points 33 to 35)."""

import random
import unittest

import naive_equivalence as equal
import naive_systems as naive
from parley import errors
from parley.equivalence import compare_strongly, is_strong_relation, joined
from parley.sheets import is_sheet, sheet_depth, sheet_satisfies, unfolded
from parley.systems import System

STOP = System(1, [])
ONE = System(4, [(0, "a", 1), (1, "b", 2), (1, "c", 3)])
TWO = System(5, [(0, "a", 1), (0, "a", 2), (1, "b", 3), (2, "c", 4)])
RING = naive.ring("a", "a", "a")
LOOP = System(1, [(0, "a", 0)])


class JoinedTest(unittest.TestCase):
    def test_joined(self):
        self.assertEqual(
            joined(ONE, TWO),
            System(9, list(ONE.edges) + [(4, "a", 5), (4, "a", 6), (5, "b", 7), (6, "c", 8)]),
        )
        self.assertEqual(joined(STOP, STOP), System(2, []))
        self.assertEqual(joined(STOP, LOOP), System(2, [(1, "a", 1)]))
        self.assertEqual(joined(LOOP, STOP), System(2, [(0, "a", 0)]))

    def test_too_many_states(self):
        self.assertEqual(joined(System(19999, []), STOP).count, 20000)
        for pair in ((20000, 1), (1, 20000), (10000, 10001), (20000, 20000)):
            with self.assertRaises(errors.BadSystem):
                joined(System(pair[0], []), System(pair[1], []))

    def test_random_systems(self):
        source = random.Random(50)
        for _ in range(100):
            first, second = naive.random_system(source), naive.random_system(source)
            self.assertEqual(joined(first, second), naive.beside(first, second))


class CompareTest(unittest.TestCase):
    def same(self, first, second, relation):
        found = compare_strongly(first, second)
        self.assertEqual(found, ("same", relation))
        self.assertIsInstance(found[1], list)
        self.assertIs(is_strong_relation(first, second, relation), True)

    def different(self, first, second, depth):
        found = compare_strongly(first, second)
        self.assertIsInstance(found, tuple)
        word, sheet = found
        many = first.count + second.count
        self.assertEqual(word, "different")
        self.assertIsInstance(sheet, tuple)
        self.assertIs(is_sheet(sheet), True)
        self.assertLessEqual({row[0] for row in sheet}, set(equal.STRONG_WORDS))
        self.assertIs(sheet_satisfies(first, sheet), True)
        self.assertIs(sheet_satisfies(second, sheet), False)
        self.assertEqual(sheet_depth(sheet), depth)
        self.assertLessEqual(len(sheet), many * many * (many + 3))

    def test_equal_systems(self):
        self.same(STOP, STOP, [(0, 0)])
        self.same(ONE, ONE, [(0, 0), (1, 1), (2, 2), (2, 3), (3, 2), (3, 3)])

    def test_equivalent_systems(self):
        self.same(RING, LOOP, [(0, 0), (1, 0), (2, 0)])
        self.same(LOOP, RING, [(0, 0), (0, 1), (0, 2)])
        # States that are not reached stand in the greatest relation, too.
        self.same(System(2, []), System(2, [(1, "a", 1)]), [(0, 0), (1, 0)])
        self.same(STOP, System(3, [(1, "a", 2)]), [(0, 0), (0, 2)])

    def test_different_systems(self):
        self.different(STOP, LOOP, 1)
        self.different(LOOP, STOP, 1)
        self.different(ONE, TWO, 2)
        self.different(TWO, ONE, 2)
        self.different(System(1, [(0, "tau", 0)]), STOP, 1)
        self.different(naive.line("a"), naive.line("tick"), 1)
        for many in (1, 2, 7):
            self.different(naive.line(*["a"] * many), naive.line(*["a"] * (many + 1)), many + 1)
            self.different(naive.line(*["a"] * many), LOOP, many + 1)

    def test_tau_and_divergence_are_like_other_actions(self):
        self.different(System(2, [(0, "tau", 1), (1, "a", 1)]), LOOP, 1)
        self.same(naive.ring("tau", "tau"), System(1, [(0, "tau", 0)]), [(0, 0), (1, 0)])

    def test_formula_of_a_small_sheet(self):
        _, sheet = compare_strongly(naive.line("a", "b"), naive.line("a"))
        formula = unfolded(sheet)
        self.assertTrue(naive.holds(naive.line("a", "b"), 0, formula))
        self.assertFalse(naive.holds(naive.line("a"), 0, formula))

    def too_large(self, due, *pair, **options):
        with self.assertRaises(errors.TooLarge) as caught:
            compare_strongly(*pair, **options)
        self.assertEqual(caught.exception.limit, due)

    def test_limits(self):
        self.assertEqual(compare_strongly(RING, RING, limit=9)[0], "same")
        self.too_large(8, RING, RING, limit=8)
        self.too_large(1, STOP, System(2, []), limit=1)
        self.assertEqual(compare_strongly(STOP, STOP, limit=1)[0], "same")
        self.assertEqual(compare_strongly(System(400, []), System(500, []))[0], "same")
        self.too_large(200000, System(401, []), System(499, []))

    def test_too_many_states_come_first(self):
        for options in ({}, {"limit": 1}, {"limit": 10**9}):
            with self.assertRaises(errors.BadSystem):
                compare_strongly(System(20000, []), STOP, **options)

    def test_random_systems(self):
        source = random.Random(51)
        words = {"same": 0, "different": 0}
        for _ in range(500):
            first, second = naive.random_system(source), naive.random_system(source)
            if source.random() < 0.3:
                second = System(first.count, [edge for edge in first.edges if source.random() < 0.9])
            both = naive.beside(first, second)
            rounds = [naive.classes_after(both, step) for step in range(both.count + 1)]
            apart = [at for at, found in enumerate(rounds) if not [1 for row in found if {0, first.count} <= set(row)]]
            if apart:
                # Point 35: no formula of a smaller depth tells the two systems apart.
                self.different(first, second, apart[0])
            else:
                self.same(first, second, equal.common_pairs(rounds[-1], first.count))
            words["different" if apart else "same"] += 1
        self.assertGreater(min(words.values()), 100, words)

    def test_arguments_are_not_changed(self):
        edges = ONE.edges, TWO.edges
        compare_strongly(ONE, TWO)
        compare_strongly(RING, LOOP)[1].clear()
        self.assertEqual((ONE.edges, TWO.edges, len(compare_strongly(RING, LOOP)[1])), (*edges, 3))


class DepthTest(unittest.TestCase):
    def test_classes_and_formulas(self):
        """Point 35: the states of one class in a round satisfy the same formulas up to its depth."""
        source = random.Random(52)
        for _ in range(60):
            system = naive.random_system(source, 5, 8)
            formulas = [naive.random_formula(source, 5) for _ in range(30)]
            for step in range(4):
                classes = naive.classes_after(system, step)
                for formula in formulas:
                    if naive.depth(formula) <= step and not {"might", "loops"} & words_of(formula):
                        for states in classes:
                            self.assertEqual(len({naive.holds(system, state, formula) for state in states}), 1)


def words_of(formula):
    return {formula[0]}.union(*[words_of(part) for part in naive.parts(formula)])


class RelationTest(unittest.TestCase):
    def check(self, expected, first, second, relation):
        copy = list(relation)
        self.assertIs(is_strong_relation(first, second, copy), expected, relation)
        self.assertEqual(copy, relation)

    def test_right_relations(self):
        self.check(True, STOP, STOP, [(0, 0)])
        self.check(True, ONE, ONE, [(0, 0), (1, 1), (2, 2), (2, 3), (3, 2), (3, 3)])
        # It need not be the greatest.
        self.check(True, ONE, ONE, [(0, 0), (1, 1), (2, 2), (3, 3)])
        self.check(True, ONE, ONE, [(0, 0), (1, 1), (2, 2), (3, 2), (3, 3)])
        self.check(True, System(2, []), System(2, []), [(0, 0)])
        self.check(True, System(2, []), System(2, []), [(0, 0), (1, 0)])

    def test_pairs_left_out(self):
        self.check(False, STOP, STOP, [])
        self.check(False, RING, LOOP, [(0, 0), (1, 0)])
        self.check(False, RING, LOOP, [(0, 0), (2, 0)])
        self.check(False, RING, LOOP, [(1, 0), (2, 0)])
        self.check(False, ONE, ONE, [(0, 0), (1, 1), (2, 2)])
        self.check(False, ONE, ONE, [(0, 0)])
        # 2 and 3 do the same, but each of the edges to them is to be answered with the same action.
        self.check(False, ONE, ONE, [(0, 0), (1, 1), (2, 3), (3, 2)])

    def test_wrong_pairs(self):
        self.check(False, ONE, ONE, [(0, 0), (0, 1), (1, 1), (2, 2), (3, 3)])
        self.check(False, ONE, TWO, [(0, 0), (1, 1), (1, 2), (2, 3), (3, 4)])
        self.check(False, System(2, [(0, "a", 1)]), System(2, [(0, "b", 1)]), [(0, 0), (1, 1)])
        # Only the second system has the edge, and only the first one.
        self.check(False, STOP, LOOP, [(0, 0)])
        self.check(False, LOOP, STOP, [(0, 0)])

    def test_several_edges_with_one_action(self):
        fork = System(4, [(0, "a", 1), (0, "a", 2)])
        # No edge of the second system leads to 3, the only partner of 1; all of its own edges are answered.
        self.check(False, fork, fork, [(0, 0), (1, 3), (2, 1), (2, 2)])
        self.check(False, fork, fork, [(0, 0), (1, 2), (2, 2), (3, 1)])
        self.check(True, fork, fork, [(0, 0), (1, 2), (1, 3), (2, 1)])

    def test_doubled_and_turned_pairs(self):
        self.check(False, RING, LOOP, [(0, 0), (0, 0), (1, 0), (2, 0)])
        self.check(False, RING, LOOP, [(0, 0), (0, 1), (0, 2)])
        self.check(True, LOOP, RING, [(0, 0), (0, 1), (0, 2)])

    def test_lists_that_are_not_ascending(self):
        self.check(False, RING, LOOP, [(1, 0), (0, 0), (2, 0)])
        self.check(False, RING, LOOP, [(2, 0), (1, 0), (0, 0)])

    def test_states_that_there_are_not(self):
        self.check(False, STOP, STOP, [(0, 0), (1, 0)])
        self.check(False, STOP, STOP, [(0, 0), (0, 1)])
        self.check(False, STOP, STOP, [(-1, 0), (0, 0)])
        self.check(False, STOP, STOP, [(0, -1), (0, 0)])
        self.check(False, RING, LOOP, [(-3, 0), (-2, 0), (-1, 0), (0, 0), (1, 0), (2, 0)])
        self.check(False, STOP, STOP, [(0, 0), (10**30, 0)])
        self.check(False, STOP, STOP, [(0, 0), (0, 10**30)])

    def test_random_systems(self):
        source = random.Random(53)
        many = [0, 0]
        for _ in range(400):
            first = naive.random_system(source, 4, 6)
            second = System(first.count, [edge for edge in first.edges if source.random() < 0.95])
            both = naive.beside(first, second)
            relation = equal.common_pairs(naive.classes_after(both, both.count), first.count)
            for drawn in equal.drawn_relations(source, relation, first, second, 4):
                expected = equal.is_relation(first, second, drawn, False)
                many[expected] += 1
                self.check(expected, first, second, drawn)
        self.assertGreater(min(many), 100, many)


class LargeTest(unittest.TestCase):
    def test_chains(self):
        for word in ("a", "tau"):
            chain, shorter = naive.line(*[word] * 4000), naive.line(*[word] * 3999)
            relation = [(state, state) for state in range(4001)]
            self.assertEqual(compare_strongly(chain, chain, limit=10**8), ("same", relation))
            self.assertIs(is_strong_relation(chain, chain, relation), True)
            self.assertIs(is_strong_relation(chain, chain, relation[:-1]), False)
            word, sheet = compare_strongly(chain, shorter, limit=10**8)
            self.assertEqual((word, sheet_depth(sheet)), ("different", 4000))
            self.assertEqual((sheet_satisfies(chain, sheet), sheet_satisfies(shorter, sheet)), (True, False))

    def test_stars(self):
        star = System(10000, [(0, "a", state) for state in range(1, 10000)])
        self.assertEqual(compare_strongly(star, System(2, [(0, "a", 1)]))[0], "same")
        self.assertIs(is_strong_relation(star, star, [(state, state) for state in range(10000)]), True)

    def test_systems_in_which_all_states_have_edges_to_all(self):
        edges = [(state, "a", other) for state in range(300) for other in range(300)]
        word, relation = compare_strongly(System(300, edges), System(300, edges[:-1]))
        self.assertEqual((word, len(relation)), ("same", 90000))
        self.assertIs(is_strong_relation(System(300, edges), System(300, edges[:-1]), relation), True)


if __name__ == "__main__":
    unittest.main()
