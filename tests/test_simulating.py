"""Simulation (points 59 to 61)."""

import random
import unittest

import naive_equivalence as equal
import naive_systems as naive
from parley import errors
from parley.equivalence import compare_strongly
from parley.refining import refines
from parley.sheets import is_sheet, sheet_depth, sheet_satisfies
from parley.simulating import is_simulation, simulates, struck_in
from parley.systems import System

STOP = System(1, [])
LOOP = System(1, [(0, "a", 0)])
# The first one chooses after "a", the second one with "a".
LATE = System(4, [(0, "a", 1), (1, "b", 2), (1, "c", 3)])
EARLY = System(5, [(0, "a", 1), (0, "a", 2), (1, "b", 3), (2, "c", 4)])


def rounds(first, second):
    """The round in which each pair is struck, and the pairs that are never struck (point 60)."""
    left = {(state, other) for state in range(first.count) for other in range(second.count)}
    struck = {}
    step = 0
    while True:
        step += 1
        gone = {pair for pair in left if not are_answered(first, second, pair, left)}
        if not gone:
            return struck, left
        struck.update({pair: step for pair in gone})
        left -= gone


def are_answered(first, second, pair, left):
    state, other = pair
    return all(
        any((answer, target) in left for answer in equal.targets(first, state, action))
        for source, action, target in second.edges
        if source == other
    )


class SimulatesTest(unittest.TestCase):
    def yes(self, first, second, pairs):
        found = simulates(first, second)
        self.assertEqual(found, ("yes", pairs))
        self.assertIsInstance(found[1], list)
        self.assertIs(is_simulation(first, second, pairs), True)

    def no(self, first, second, depth):
        found = simulates(first, second)
        self.assertIsInstance(found, tuple)
        word, sheet = found
        self.assertEqual(word, "no")
        self.assertIsInstance(sheet, tuple)
        self.assertIs(is_sheet(sheet), True)
        self.assertLessEqual({row[0] for row in sheet}, {"true", "and", "can"})
        self.assertIs(sheet_satisfies(second, sheet), True)
        self.assertIs(sheet_satisfies(first, sheet), False)
        self.assertEqual(sheet_depth(sheet), depth)
        self.assertLessEqual(len(sheet), first.count * second.count * (first.count + 1) + 1)

    def test_example(self):
        self.assertEqual([simulates(LATE, EARLY)[0], simulates(EARLY, LATE)[0]], ["yes", "no"])
        self.no(EARLY, LATE, 2)

    def test_yes(self):
        self.yes(STOP, STOP, [(0, 0)])
        self.yes(LOOP, STOP, [(0, 0)])
        self.yes(LOOP, naive.line("a", "a"), [(0, 0), (0, 1), (0, 2)])
        self.yes(naive.line("a", "b"), naive.line("a"), [(0, 0), (0, 1), (1, 1), (2, 1)])
        # Nothing is asked about the edges of the first system.
        self.yes(System(2, [(0, "a", 1), (0, "b", 1)]), naive.line("b"), [(0, 0), (0, 1), (1, 1)])

    def test_no(self):
        self.no(STOP, LOOP, 1)
        self.no(naive.line("a"), naive.line("b"), 1)
        for many in (1, 2, 7):
            self.no(naive.line(*["a"] * many), LOOP, many + 1)
            self.no(naive.line(*["a"] * many), naive.line(*["a"] * (many + 1)), many + 1)

    def test_tau_and_tick_are_like_other_actions(self):
        self.no(STOP, System(1, [(0, "tau", 0)]), 1)
        self.no(naive.line("a"), naive.line("tau", "a"), 1)
        self.no(naive.line("tick"), naive.line("a"), 1)
        self.yes(System(1, [(0, "tau", 0)]), naive.line("tau"), [(0, 0), (0, 1)])

    def too_large(self, due, *pair, **options):
        for call in (simulates, struck_in):
            with self.assertRaises(errors.TooLarge) as caught:
                call(*pair, **options)
            self.assertEqual(caught.exception.limit, due)

    def test_limits(self):
        ring = naive.ring("a", "a", "a")
        self.assertEqual(simulates(ring, LATE, limit=12)[0], "no")
        self.assertEqual(len(struck_in(ring, LATE, limit=12)), 6)
        self.too_large(11, ring, LATE, limit=11)
        self.too_large(1, STOP, naive.line("a"), limit=1)
        self.assertEqual(simulates(STOP, STOP, limit=1), ("yes", [(0, 0)]))
        self.assertEqual(struck_in(STOP, LOOP, limit=1), {(0, 0): 1})
        self.assertEqual(simulates(System(400, []), System(500, []))[0], "yes")
        self.too_large(200000, System(401, []), System(499, []))
        # More than 20000 states of both together are no fault here.
        self.assertEqual(simulates(System(20000, []), STOP)[0], "yes")

    def test_random_systems(self):
        source = random.Random(100)
        words = {"yes": 0, "no": 0}
        for _ in range(600):
            first, second = naive.random_system(source, 4, 9), naive.random_system(source, 4, 5)
            struck, left = rounds(first, second)
            if (0, 0) in left:
                self.yes(first, second, sorted(left))
            else:
                # Point 60: a formula of a smaller depth does not tell the two systems apart.
                self.no(first, second, struck[(0, 0)])
            words["yes" if (0, 0) in left else "no"] += 1
        self.assertGreater(min(words.values()), 150, words)

    def test_formulas_of_a_smaller_depth(self):
        """Point 60: a pair is struck by a round if and only if some positive formula of this depth tells it."""
        source = random.Random(101)
        for _ in range(60):
            first, second = naive.random_system(source, 3, 5, ("a", "b")), naive.random_system(source, 3, 5, ("a", "b"))
            struck, _ = rounds(first, second)
            for _ in range(20):
                formula = positive_formula(source, 3)
                for state in range(first.count):
                    for other in range(second.count):
                        if naive.holds(second, other, formula) and not naive.holds(first, state, formula):
                            self.assertLessEqual(struck[(state, other)], naive.depth(formula))

    def test_arguments_are_not_changed(self):
        edges = LATE.edges, EARLY.edges
        simulates(LATE, EARLY)[1].clear()
        struck_in(EARLY, LATE).clear()
        self.assertEqual((LATE.edges, EARLY.edges), edges)
        self.assertGreater(len(simulates(LATE, EARLY)[1]), 0)
        self.assertGreater(len(struck_in(EARLY, LATE)), 0)


def positive_formula(source, tallest):
    kind = source.choice(("true",) if tallest == 0 else ("and", "or", "can", "can", "can"))
    if kind == "true":
        return (kind,)
    if kind == "can":
        return (kind, source.choice("ab"), positive_formula(source, tallest - 1))
    return (kind, positive_formula(source, tallest - 1), positive_formula(source, tallest - 1))


class StruckTest(unittest.TestCase):
    def test_rounds(self):
        self.assertEqual(struck_in(STOP, STOP), {})
        self.assertEqual(struck_in(LOOP, naive.line("a", "a")), {})
        self.assertEqual(
            struck_in(naive.line("a", "a"), LOOP), {(2, 0): 1, (1, 0): 2, (0, 0): 3},
        )
        self.assertEqual(
            struck_in(naive.line("a"), naive.line("a", "a")), {(1, 0): 1, (1, 1): 1, (0, 0): 2},
        )
        self.assertIsInstance(struck_in(STOP, LOOP), dict)

    def test_all_answers_are_struck(self):
        # 0 has two edges with "a", to states that are struck in different rounds.
        first = System(4, [(0, "a", 1), (0, "a", 2), (2, "b", 3)])
        second = naive.line("a", "b", "b")
        self.assertEqual(struck_in(first, second)[(0, 0)], 3)
        self.assertEqual(struck_in(first, second), rounds(first, second)[0])

    def test_random_systems(self):
        source = random.Random(102)
        for _ in range(500):
            first, second = naive.random_system(source, 5, 10), naive.random_system(source, 4, 7)
            self.assertEqual(struck_in(first, second), rounds(first, second)[0])

    def test_larger_random_systems(self):
        source = random.Random(103)
        for _ in range(20):
            first = naive.random_system(source, 15, 40, ("a", "b"))
            second = naive.random_system(source, 15, 25, ("a", "b"))
            self.assertEqual(struck_in(first, second), rounds(first, second)[0])


class SimulationTest(unittest.TestCase):
    def check(self, expected, first, second, pairs):
        copy = list(pairs)
        self.assertIs(is_simulation(first, second, copy), expected, pairs)
        self.assertEqual(copy, pairs)

    def test_right_lists(self):
        self.check(True, STOP, STOP, [(0, 0)])
        self.check(True, LATE, EARLY, [(0, 0), (1, 1), (1, 2), (2, 3), (3, 4)])
        self.check(True, LATE, EARLY, [(0, 0), (0, 3), (1, 1), (1, 2), (2, 3), (3, 4)])
        self.check(True, LOOP, STOP, [(0, 0)])

    def test_pairs_left_out(self):
        self.check(False, STOP, STOP, [])
        self.check(False, LATE, EARLY, [(1, 1), (1, 2), (2, 3), (3, 4)])
        self.check(False, LATE, EARLY, [(0, 0), (1, 1), (2, 3), (3, 4)])
        self.check(False, LATE, EARLY, [(0, 0), (1, 1), (1, 2), (2, 3)])

    def test_wrong_pairs(self):
        self.check(False, STOP, LOOP, [(0, 0)])
        self.check(False, LATE, EARLY, [(0, 0), (0, 1), (1, 1), (1, 2), (2, 3), (3, 4)])
        self.check(False, EARLY, LATE, [(0, 0), (1, 1), (2, 1), (3, 2), (4, 3)])

    def test_several_edges_with_one_action(self):
        fork = System(4, [(0, "a", 1), (0, "a", 2)])
        self.check(False, fork, naive.line("a"), [(0, 0), (3, 1)])
        self.check(True, fork, naive.line("a"), [(0, 0), (2, 1)])
        self.check(True, fork, naive.line("a"), [(0, 0), (1, 1), (2, 1), (3, 1)])

    def test_doubled_and_turned_pairs(self):
        self.check(False, LATE, EARLY, [(0, 0), (0, 0), (1, 1), (1, 2), (2, 3), (3, 4)])
        self.check(False, LATE, EARLY, [(0, 0), (1, 1), (2, 1), (3, 2), (4, 3)])
        self.check(True, LOOP, naive.line("a"), [(0, 0), (0, 1)])
        self.check(False, LOOP, naive.line("a"), [(0, 0), (1, 0)])
        self.check(False, LATE, EARLY, [(3, 4), (2, 3), (1, 2), (1, 1), (0, 0)])

    def test_states_that_there_are_not(self):
        right = [(0, 0), (1, 1), (1, 2), (2, 3), (3, 4)]
        self.check(True, LATE, EARLY, right)
        for pair in ((-1, 0), (0, -1), (4, 0), (0, 5), (-1, -1), (10**30, 3), (3, 10**30)):
            self.check(False, LATE, EARLY, sorted(right + [pair]))

    def test_random_systems(self):
        source = random.Random(104)
        many = [0, 0]
        for _ in range(400):
            first, second = naive.random_system(source, 4, 9), naive.random_system(source, 4, 5)
            left = sorted(rounds(first, second)[1])
            for drawn in equal.drawn_relations(source, left, first, second, 3):
                expected = equal.is_list_of_states(first, second, drawn) and all(
                    are_answered(first, second, pair, set(drawn)) for pair in drawn
                )
                many[expected] += 1
                self.check(expected, first, second, drawn)
        self.assertGreater(min(many), 100, many)


class LawsTest(unittest.TestCase):
    def test_refinement_and_strong_equivalence(self):
        """Point 61."""
        source = random.Random(105)
        many = {"yes": 0, "same": 0}
        while min(many.values()) < 60:
            first, second = naive.random_system(source), naive.random_system(source, 4, 5)
            if simulates(first, second)[0] == "yes":
                many["yes"] += 1
                self.assertEqual(refines(first, second, "traces")[0], "yes")
            if compare_strongly(first, second)[0] == "same":
                many["same"] += 1
                self.assertEqual(simulates(first, second)[0], "yes")
                self.assertEqual(simulates(second, first)[0], "yes")


class LargeTest(unittest.TestCase):
    def test_chains(self):
        shorter, chain = naive.line(*["a"] * 400), naive.line(*["a"] * 401)
        word, sheet = simulates(shorter, chain)
        self.assertEqual((word, sheet_depth(sheet)), ("no", 401))
        word, pairs = simulates(chain, shorter)
        self.assertEqual(word, "yes")
        self.assertIs(is_simulation(chain, shorter, pairs), True)
        long = naive.line(*["a"] * 19999)
        self.assertEqual(simulates(LOOP, long)[0], "yes")
        self.assertEqual(struck_in(long, LOOP)[(0, 0)], 20000)
        self.assertEqual(sheet_depth(simulates(long, LOOP)[1]), 20000)
        self.assertIs(is_simulation(long, long, [(state, state) for state in range(20000)]), True)

    def test_systems_in_which_all_states_have_edges_to_all(self):
        edges = [(state, "a", other) for state in range(200) for other in range(200)]
        first, second = System(200, edges), System(200, edges + [(0, "b", 0)])
        self.assertEqual(len(struck_in(first, second)), 40000)
        self.assertEqual(sheet_depth(simulates(first, second)[1]), 1)
        self.assertEqual(simulates(second, first)[0], "yes")


if __name__ == "__main__":
    unittest.main()
