"""Classes of strongly equivalent states, and small systems (points 33, 36 and 37)."""

import itertools
import random
import unittest

import naive_systems as naive
from parley import errors
from parley.classes import are_equivalent, classes, classes_after, last_round, small
from parley.combining import hidden, renamed, side_by_side
from parley.refining import refines
from parley.systems import System, reached

# A chain in which each round takes one more state away from the beginning.
CHAIN = naive.line("a", "a", "a")
# 1 and 2 are alike but for what is behind them.
FORKS = System(7, [(0, "a", 1), (0, "a", 2), (1, "b", 3), (2, "b", 4), (4, "c", 5), (6, "a", 1), (6, "a", 2)])


def everything(count, actions):
    """All systems with a number of states and with edges with these actions."""
    edges = list(itertools.product(range(count), actions, range(count)))
    for chosen in itertools.product((False, True), repeat=len(edges)):
        yield System(count, [edge for edge, taken in zip(edges, chosen) if taken])


class RoundsTest(unittest.TestCase):
    def test_rounds(self):
        self.assertEqual(classes_after(CHAIN, 0), [(0, 1, 2, 3)])
        self.assertEqual(classes_after(CHAIN, 1), [(0, 1, 2), (3,)])
        self.assertEqual(classes_after(CHAIN, 2), [(0, 1), (2,), (3,)])
        for step in (3, 4, 5, 1000, 10**30):
            self.assertEqual(classes_after(CHAIN, step), [(0,), (1,), (2,), (3,)])
        self.assertEqual(classes_after(FORKS, 0), [(0, 1, 2, 3, 4, 5, 6)])
        self.assertEqual(classes_after(FORKS, 1), [(0, 6), (1, 2), (3, 5), (4,)])
        self.assertEqual(classes_after(FORKS, 2), [(0, 6), (1,), (2,), (3, 5), (4,)])
        self.assertEqual(classes_after(FORKS, 7), classes_after(FORKS, 2))

    def test_negative_numbers(self):
        for step in (-1, -10**30):
            with self.assertRaises(errors.BadArgument):
                classes_after(CHAIN, step)

    def test_classes(self):
        self.assertEqual(classes(CHAIN), [(0,), (1,), (2,), (3,)])
        self.assertEqual(classes(FORKS), [(0, 6), (1,), (2,), (3, 5), (4,)])
        self.assertEqual(classes(System(1, [])), [(0,)])
        self.assertEqual(classes(System(3, [])), [(0, 1, 2)])
        self.assertEqual(classes(naive.ring("a", "a", "a")), [(0, 1, 2)])
        self.assertEqual(classes(naive.ring("a", "tau", "a", "tau")), [(0, 2), (1, 3)])

    def test_order_of_the_classes(self):
        system = System(13, [(12, "a", 2), (2, "b", 10), (0, "b", 11), (9, "a", 0)])
        self.assertEqual(classes(system), [(0, 2), (1, 3, 4, 5, 6, 7, 8, 10, 11), (9, 12)])

    def test_actions_and_the_number_of_edges(self):
        # Many edges to one class are no more than one; "tau" and "tick" are actions like others.
        system = System(6, [(0, "a", 2), (1, "a", 2), (1, "a", 3), (4, "tau", 2), (5, "tick", 2)])
        self.assertEqual(classes(system), [(0, 1), (2, 3), (4,), (5,)])

    def test_last_round(self):
        self.assertEqual(last_round(CHAIN), 3)
        self.assertEqual(last_round(FORKS), 2)
        self.assertEqual(last_round(System(1, [])), 0)
        self.assertEqual(last_round(System(5, [])), 0)
        self.assertEqual(last_round(naive.ring("a", "a", "a")), 0)
        self.assertEqual(last_round(System(2, [(0, "a", 1)])), 1)

    def test_are_equivalent(self):
        self.assertIs(are_equivalent(FORKS, 0, 6), True)
        self.assertIs(are_equivalent(FORKS, 6, 0), True)
        self.assertIs(are_equivalent(FORKS, 1, 2), False)
        self.assertIs(are_equivalent(FORKS, 1, 1), True)
        for pair in ((7, 0), (0, 7), (-1, 0), (0, -1), (7, 7), (-1, -1), (10**30, 0), (0, -(10**30))):
            with self.assertRaises(errors.BadArgument):
                are_equivalent(FORKS, *pair)

    def test_random_systems(self):
        source = random.Random(38)
        for _ in range(400):
            system = naive.random_system(source, 7, 12)
            rounds = [naive.classes_after(system, step) for step in range(system.count + 2)]
            for step, expected in enumerate(rounds):
                self.assertEqual(classes_after(system, step), expected)
            self.assertEqual(classes(system), rounds[-1])
            self.assertEqual(last_round(system), next(at for at, found in enumerate(rounds) if found == rounds[at + 1]))
            pair = source.randrange(system.count), source.randrange(system.count)
            self.assertIs(are_equivalent(system, *pair), any(set(pair) <= set(states) for states in rounds[-1]))

    def test_larger_random_systems(self):
        source = random.Random(39)
        for _ in range(25):
            count = source.randint(20, 40)
            edges = [
                (source.randrange(count), source.choice(("a", "a", "b")), source.randrange(count))
                for _ in range(source.randint(count // 2, 2 * count))
            ]
            system = System(count, edges)
            for step in range(12):
                self.assertEqual(classes_after(system, step), naive.classes_after(system, step))
            self.assertEqual(classes(system), naive.classes_after(system, count))


class SmallTest(unittest.TestCase):
    def test_states_that_are_not_reached(self):
        self.assertEqual(small(System(4, [(2, "a", 0), (1, "b", 3)])), System(1, []))
        self.assertEqual(small(System(5, [(0, "a", 3), (4, "b", 3), (3, "c", 0)])), System(2, [(0, "a", 1), (1, "c", 0)]))

    def test_several_states_in_one_class(self):
        self.assertEqual(small(naive.ring("a", "a", "a")), System(1, [(0, "a", 0)]))
        self.assertEqual(small(System(3, [(0, "a", 1), (0, "a", 2)])), System(2, [(0, "a", 1)]))
        self.assertEqual(small(naive.ring(*["tau", "b"] * 50)), System(2, [(0, "tau", 1), (1, "b", 0)]))

    def test_small_systems_stay(self):
        for system in (System(1, []), CHAIN, System(3, [(0, "a", 1), (0, "a", 2), (2, "b", 0)])):
            self.assertEqual(small(system), system)

    def test_numbering(self):
        # The reached part has the states 0, 4, 2, 1, 5, 3 in this order; 4 and 1 are of one class.
        system = System(6, [(0, "a", 4), (0, "b", 2), (0, "c", 1), (2, "a", 5), (4, "d", 5), (1, "d", 5), (5, "e", 3)])
        self.assertEqual(
            small(system),
            System(5, [(0, "a", 1), (0, "b", 2), (0, "c", 1), (1, "d", 3), (2, "a", 3), (3, "e", 4)]),
        )

    def test_order_of_classes_behind_one_action(self):
        # In the reached part 3 has the number 1, since "a" leads there; so its class comes first behind "b", too.
        system = System(5, [(0, "a", 3), (0, "b", 1), (0, "b", 2), (2, "c", 4), (3, "c", 4), (1, "d", 4)])
        self.assertEqual(reached(system).edges[:3], ((0, "a", 1), (0, "b", 2), (0, "b", 3)))
        self.assertEqual(
            small(system), System(4, [(0, "a", 1), (0, "b", 1), (0, "b", 2), (1, "c", 3), (2, "d", 3)]),
        )

    def test_random_systems(self):
        source = random.Random(40)
        for _ in range(300):
            system = naive.random_system(source, 6, 10)
            found = small(system)
            part = reached(system)
            self.assertEqual(found, naive.small(part))
            self.assertTrue(naive.are_strongly_equivalent(system, found))
            self.assertEqual(found.count, len(naive.classes_after(part, part.count)))
            self.assertEqual(reached(found), found)
            self.assertEqual(small(found), found)

    def test_no_smaller_system_is_equivalent(self):
        source = random.Random(41)
        many = 0
        while many < 25:
            system = naive.random_system(source, 4, 6, ("a", "tau"))
            found = small(system)
            if found.count > 1:
                many += 1
                for count in range(1, min(found.count, 3)):
                    for other in everything(count, ("a", "tau")):
                        self.assertFalse(naive.are_strongly_equivalent(system, other))

    def test_arguments_are_not_changed(self):
        edges = FORKS.edges
        small(FORKS)
        classes(FORKS).clear()
        self.assertEqual((FORKS.count, FORKS.edges, len(classes(FORKS))), (7, edges, 5))


class LawsTest(unittest.TestCase):
    def test_kept_by_putting_together(self):
        source = random.Random(42)
        for _ in range(200):
            first, second = naive.random_system(source), naive.random_system(source)
            events = tuple(event for event in ("a", "b") if source.random() < 0.5)
            pairs = tuple((old, source.choice(("a", "b", "c"))) for old in ("a", "b") if source.random() < 0.7)
            for change in (
                lambda system: side_by_side(system, second, events),
                lambda system: side_by_side(second, system, events),
                lambda system: hidden(system, events),
                lambda system: renamed(system, pairs),
            ):
                self.assertEqual(small(change(first)), small(change(small(first))))
                self.assertTrue(naive.are_strongly_equivalent(change(first), change(small(first))))

    def test_refinement_stays(self):
        source = random.Random(43)
        for _ in range(200):
            first, second = naive.random_system(source), naive.random_system(source, 4, 5)
            for model in naive.MODELS:
                word, shown = refines(first, second, model)
                for pair in ((small(first), second), (first, small(second)), (small(first), small(second))):
                    other = refines(*pair, model)
                    self.assertEqual(other[0], word)
                    if word == "no":
                        self.assertEqual(other[1], shown)


class LargeTest(unittest.TestCase):
    def test_chains(self):
        for word in ("a", "tau"):
            chain = naive.line(*[word] * 7999)
            self.assertEqual(last_round(chain), 7999)
            self.assertEqual(len(classes(chain)), 8000)
            self.assertEqual(classes_after(chain, 4000)[0], tuple(range(4000)))
            self.assertEqual(small(chain), chain)
            self.assertIs(are_equivalent(chain, 0, 1), False)

    def test_rings(self):
        ring = naive.ring(*["a"] * 20000)
        self.assertEqual(classes(ring), [tuple(range(20000))])
        self.assertEqual((last_round(ring), small(ring)), (0, System(1, [(0, "a", 0)])))
        self.assertIs(are_equivalent(ring, 0, 19999), True)

    def test_a_state_with_edges_to_all_states_of_a_chain(self):
        edges = [(state, "b", state + 1) for state in range(1, 7999)] + [(0, "a", state) for state in range(1, 8000)]
        self.assertEqual(last_round(System(8000, edges)), 7998)
        self.assertEqual(small(System(8000, edges)).count, 8000)


if __name__ == "__main__":
    unittest.main()
