"""Refinement (points 20 to 22, and 24)."""

import random
import unittest

import naive_systems as naive
from naive_systems import MODELS
from parley import errors
from parley.combining import hidden, renamed, side_by_side
from parley.refining import allows, order_key, refines
from parley.systems import System

STOP = System(1, [])
# After "a" it may hang or do "b"; after "c" it is stable and does "b".
HANGING = System(4, [(0, "a", 1), (1, "tau", 1), (1, "b", 3), (0, "c", 2), (2, "b", 3)])
CHOICE = System(2, [(0, "a", 1), (0, "b", 1)])
INTERNAL = System(4, [(0, "tau", 1), (0, "tau", 2), (1, "a", 3), (2, "b", 3)])


class AllowsTest(unittest.TestCase):
    def check(self, system, behaviour, *expected):
        found = [allows(system, behaviour, model) for model in MODELS]
        self.assertEqual(found, list(expected), behaviour)
        self.assertTrue(all(isinstance(answer, bool) for answer in found))

    def test_traces(self):
        self.check(CHOICE, ("trace", ()), True, True, True)
        self.check(CHOICE, ("trace", ("b",)), True, True, True)
        self.check(CHOICE, ("trace", ("c",)), False, False, False)
        self.check(CHOICE, ("trace", ("a", "a")), False, False, False)

    def test_traces_behind_a_divergence(self):
        self.check(HANGING, ("trace", ("a", "b")), True, True, True)
        self.check(HANGING, ("trace", ("a",)), True, True, True)
        self.check(HANGING, ("trace", ("a", "d", "e")), False, False, True)
        self.check(HANGING, ("trace", ("c", "d")), False, False, False)
        self.check(HANGING, ("trace", ("d", "a")), False, False, False)

    def test_divergences(self):
        self.check(HANGING, ("divergence", ("a",)), False, False, True)
        self.check(HANGING, ("divergence", ("a", "d")), False, False, True)
        self.check(HANGING, ("divergence", ()), False, False, False)
        self.check(HANGING, ("divergence", ("c",)), False, False, False)
        self.check(System(1, [(0, "tau", 0)]), ("divergence", ()), False, False, True)
        self.check(System(1, [(0, "tau", 0)]), ("divergence", ("x", "y")), False, False, True)

    def test_failures(self):
        self.check(CHOICE, ("failure", (), ("a", "b")), True, True, True)
        self.check(CHOICE, ("failure", (), ("a", "b", "c")), True, True, True)
        self.check(CHOICE, ("failure", (), ("a",)), False, False, False)
        self.check(CHOICE, ("failure", (), ()), False, False, False)
        self.check(CHOICE, ("failure", ("a",), ()), True, True, True)
        self.check(CHOICE, ("failure", ("a", "a"), ()), False, False, False)
        for row in (("a",), ("b",), ("a", "b"), ("b", "tick")):
            self.check(INTERNAL, ("failure", (), row), True, True, True)
        for row in ((), ("tick",), ("c", "d")):
            self.check(INTERNAL, ("failure", (), row), False, False, False)

    def test_failures_behind_a_divergence(self):
        self.check(HANGING, ("failure", ("a",), ()), False, False, True)
        self.check(HANGING, ("failure", ("a", "b"), ("x",)), True, True, True)
        self.check(HANGING, ("failure", ("a", "d"), ("x",)), False, False, True)
        self.check(HANGING, ("failure", ("c",), ("a", "b")), True, True, True)
        self.check(HANGING, ("failure", ("c",), ("a",)), False, False, False)

    def test_unknown_models(self):
        for model in ("", "trace", "Traces", "weak", "traces "):
            with self.assertRaises(errors.UnknownModel) as caught:
                allows(CHOICE, ("trace", ()), model)
            self.assertEqual(caught.exception.model, model)

    def test_random_systems(self):
        source = random.Random(20)
        rows = ((), ("a",), ("b",), ("a", "b"), ("a", "b", "tick"), ("c",))
        for _ in range(150):
            system = naive.random_system(source)
            for trace in naive.traces(System(1, [(0, "a", 0), (0, "b", 0), (0, "tick", 0)]), 2):
                kinds = [("trace", trace), ("divergence", trace)] + [("failure", trace, row) for row in rows]
                for behaviour in kinds:
                    expected = [naive.allows(system, behaviour, model) for model in MODELS]
                    self.check(system, behaviour, *expected)


class OrderTest(unittest.TestCase):
    ASCENDING = [
        ("trace", ()),
        ("divergence", ()),
        ("failure", (), ()),
        ("failure", (), ("b",)),
        ("failure", (), ("tick",)),
        ("failure", (), ("a", "b")),
        ("failure", (), ("a", "c")),
        ("failure", (), ("a", "b", "c")),
        ("trace", ("a",)),
        ("divergence", ("a",)),
        ("failure", ("a",), ("a",)),
        ("trace", ("b",)),
        ("failure", ("b",), ()),
        ("divergence", ("tick",)),
        ("trace", ("a", "a")),
        ("failure", ("a", "a"), ("z",)),
        ("trace", ("a", "b")),
        ("divergence", ("b", "a")),
    ]

    def test_order(self):
        self.assertIsInstance(order_key(("trace", ())), tuple)
        shuffled = list(self.ASCENDING)
        random.Random(21).shuffle(shuffled)
        self.assertEqual(sorted(shuffled, key=order_key), self.ASCENDING)
        keys = [order_key(behaviour) for behaviour in self.ASCENDING]
        self.assertTrue(all(keys[at] < keys[at + 1] for at in range(len(keys) - 1)))


class RefinesTest(unittest.TestCase):
    def no(self, first, second, model, behaviour):
        self.assertEqual(refines(first, second, model), ("no", behaviour))

    def yes(self, first, second, *models):
        for model in models:
            self.assertEqual(refines(first, second, model), ("yes", naive.pairs_of(first, second, model)))

    def too_large(self, due, first, second, model, **options):
        with self.assertRaises(errors.TooLarge) as caught:
            refines(first, second, model, **options)
        self.assertEqual(caught.exception.limit, due)

    def test_yes(self):
        self.yes(CHOICE, CHOICE, *MODELS)
        self.yes(INTERNAL, CHOICE, *MODELS)
        self.yes(INTERNAL, System(2, [(0, "a", 1)]), *MODELS)
        self.yes(CHOICE, INTERNAL, "traces")
        self.yes(STOP, STOP, *MODELS)

    def test_certificate(self):
        answer = refines(System(2, [(0, "a", 1), (1, "a", 0)]), System(3, [(0, "a", 1), (1, "tau", 2), (2, "a", 1)]), "failures")
        self.assertEqual(answer, ("yes", [(0, (0,)), (1, (0,)), (1, (1,)), (2, (0,)), (2, (1,))]))
        self.assertIsInstance(answer, tuple)
        self.assertIsInstance(answer[1], list)

    def test_no_in_traces(self):
        self.no(STOP, CHOICE, "traces", ("trace", ("a",)))
        self.no(System(2, [(0, "b", 1)]), CHOICE, "traces", ("trace", ("a",)))
        self.no(System(2, [(0, "a", 1)]), CHOICE, "failures", ("trace", ("b",)))
        self.no(System(2, [(0, "a", 1)]), CHOICE, "divergences", ("trace", ("b",)))

    def test_no_in_failures(self):
        self.no(CHOICE, INTERNAL, "failures", ("failure", (), ("a",)))
        self.no(CHOICE, STOP, "failures", ("failure", (), ()))
        self.yes(CHOICE, STOP, "traces")
        # A state after the same trace with fewer offers is less, whatever its number is.
        edges = [(0, "tau", 1), (0, "tau", 2), (0, "tau", 3), (1, "a", 0), (1, "c", 0), (2, "a", 0), (2, "b", 0), (3, "c", 0)]
        first = System(1, [(0, "a", 0), (0, "b", 0), (0, "c", 0)])
        self.no(first, System(4, edges), "failures", ("failure", (), ("c",)))
        self.no(first, System(4, edges[:2] + edges[3:7]), "failures", ("failure", (), ("a", "b")))
        # What the first one allows is not shown, though it is less.
        first = System(4, [(0, "tau", 1), (0, "tau", 2), (1, "a", 3), (1, "b", 3), (2, "c", 3)])
        second = System(4, [(0, "tau", 1), (0, "tau", 2), (1, "c", 3), (2, "a", 3)])
        self.no(first, second, "failures", ("failure", (), ("a",)))

    def test_no_stable_state_in_the_first_system(self):
        first = System(1, [(0, "tau", 0), (0, "a", 0)])
        self.yes(first, System(1, [(0, "a", 0)]), "traces", "divergences")
        self.no(first, System(1, [(0, "a", 0)]), "failures", ("failure", (), ("a",)))
        self.yes(first, first, *MODELS)

    def test_no_in_divergences(self):
        self.no(STOP, System(1, [(0, "tau", 0)]), "divergences", ("divergence", ()))
        self.yes(STOP, System(1, [(0, "tau", 0)]), "traces", "failures")
        self.no(System(2, [(0, "a", 1)]), System(2, [(0, "a", 1), (1, "tau", 1)]), "divergences", ("divergence", ("a",)))
        # At one trace a trace comes before a divergence, and that before a failure.
        second = System(4, [(0, "a", 1), (1, "tau", 1), (1, "tau", 2), (2, "c", 3)])
        self.no(System(2, [(0, "a", 1), (1, "b", 1)]), second, "divergences", ("divergence", ("a",)))
        self.no(STOP, second, "divergences", ("trace", ("a",)))
        self.no(System(2, [(0, "a", 1), (1, "b", 1)]), second, "failures", ("failure", ("a",), ("c",)))

    def test_everything_is_allowed_behind_a_divergence(self):
        second = System(4, [(0, "c", 1), (0, "a", 2), (1, "b", 3), (2, "x", 2), (2, "tau", 2)])
        self.yes(HANGING, second, "divergences")
        self.no(HANGING, second, "traces", ("trace", ("a", "x")))
        self.yes(System(1, [(0, "tau", 0)]), second, "divergences")
        self.assertEqual(refines(System(1, [(0, "tau", 0)]), second, "divergences"), ("yes", [(0, (0,))]))
        # Nothing follows an open pair, also not by "tau".
        hanging = System(2, [(0, "a", 1), (1, "tau", 1)])
        self.assertEqual(
            refines(hanging, System(3, [(0, "a", 1), (1, "tau", 2)]), "divergences"), ("yes", [(0, (0,)), (1, (1,))]),
        )
        # The divergence ends what is compared at this trace only, not at others.
        self.no(hanging, System(3, [(0, "a", 1), (1, "x", 1), (0, "b", 2)]), "divergences", ("trace", ("b",)))

    def test_least_trace(self):
        # The shorter one comes first, also if it leads along many edges with "tau".
        second = System(7, [(0, "a", 1), (1, "x", 1), (0, "tau", 2), (2, "tau", 3), (3, "tau", 4), (4, "y", 5)])
        self.no(System(2, [(0, "a", 1)]), second, "traces", ("trace", ("y",)))
        # Of two with the same length the least one, though its last action is greater.
        second = System(5, [(0, "b", 1), (0, "a", 2), (1, "x", 3), (2, "z", 4)])
        first = System(2, [(0, "a", 1), (0, "b", 1)])
        self.no(first, second, "traces", ("trace", ("a", "z")))
        # The same pair is reached by two traces, first along the greater one.
        second = System(4, [(0, "b", 1), (0, "tau", 2), (2, "tau", 3), (3, "a", 1), (1, "c", 1)])
        self.no(first, second, "traces", ("trace", ("a", "c")))

    def test_tick(self):
        skip = System(2, [(0, "tick", 1)])
        self.yes(skip, skip, *MODELS)
        self.no(STOP, skip, "traces", ("trace", ("tick",)))
        self.no(skip, STOP, "failures", ("failure", (), ()))

    def test_limits(self):
        # The pairs are those of each state with each state of a ring of another length.
        first, second = naive.ring("a", "a", "a"), naive.ring("a", "a", "a", "a", "a")
        for model in MODELS:
            self.assertEqual(len(refines(first, second, model, limit=15)[1]), 15)
            for limit in (14, 3, 1):
                self.too_large(limit, first, second, model, limit=limit)
            self.assertEqual(refines(STOP, STOP, model, limit=1)[0], "yes")

    def test_limits_count_though_the_answer_is_no(self):
        # At once there is a difference, but all pairs with states of the first system count.
        first = System(1, [(0, "a", 0)])
        second = System(4, [(0, "b", 0), (0, "a", 1), (1, "a", 2), (2, "tau", 3)])
        for model in MODELS:
            self.assertEqual(refines(first, second, model, limit=4), ("no", ("trace", ("b",))))
            self.too_large(3, first, second, model, limit=3)
            self.too_large(1, first, second, model, limit=1)
        self.too_large(20000, naive.ring(*["a"] * 150), naive.ring(*["a"] * 151), "traces")

    def test_nothing_follows_where_the_first_system_has_no_states(self):
        # The second system goes on behind "b", but there are no pairs any more.
        for second in (naive.ring("b", "tau", "b"), naive.line("b", "a", "tau", "b"), System(2, [(0, "b", 1), (0, "c", 1)])):
            for model in MODELS:
                self.assertEqual(refines(STOP, second, model, limit=1), ("no", ("trace", ("b",))))
        # A pair that is reached along another trace, too, still counts.
        first, second = System(3, [(0, "a", 1), (1, "b", 2)]), System(3, [(0, "a", 1), (0, "b", 1), (1, "b", 2)])
        for model in MODELS:
            self.assertEqual(refines(first, second, model, limit=3), ("no", ("trace", ("b",))))
            self.too_large(2, first, second, model, limit=2)
        # Of two traces that the first system has not, the least one is shown, whatever comes first in the list of edges.
        second = System(4, [(0, "z", 1), (0, "tau", 2), (2, "y", 3), (3, "x", 3)])
        for model in MODELS:
            self.assertEqual(refines(STOP, second, model, limit=2), ("no", ("trace", ("y",))))

    def test_unknown_models(self):
        for model in ("", "failure", "Failures", "divergence"):
            for options in ({}, {"limit": 1}):
                with self.assertRaises(errors.UnknownModel) as caught:
                    refines(CHOICE, INTERNAL, model, **options)
                self.assertEqual(caught.exception.model, model)

    def test_random_systems(self):
        source = random.Random(22)
        words = {"yes": 0, "no": 0}
        for _ in range(600):
            first, second = naive.random_system(source), naive.random_system(source, 4, 5)
            for model in MODELS:
                expected = naive.least_difference(first, second, model)
                answer = ("yes", naive.pairs_of(first, second, model)) if expected is None else ("no", expected)
                many = len(naive.pairs_of(first, second, model))
                self.assertEqual(refines(first, second, model, limit=many), answer)
                if many > 1:
                    self.too_large(many - 1, first, second, model, limit=many - 1)
                words[answer[0]] += 1
        self.assertGreater(min(words.values()), 200, words)


def related(source, model):
    """Two systems of which the second one refines the first one in a model."""
    while True:
        first, second = naive.random_system(source), naive.random_system(source, 4, 5)
        if refines(first, second, model)[0] == "yes":
            return first, second


class LawsTest(unittest.TestCase):
    def test_reflexive(self):
        source = random.Random(24)
        for _ in range(150):
            system = naive.random_system(source, 5, 9)
            for model in MODELS:
                self.assertEqual(refines(system, system, model)[0], "yes")

    def test_transitive(self):
        source = random.Random(25)
        for model in MODELS:
            many = 0
            while many < 40:
                first, second = related(source, model)
                third = naive.random_system(source, 4, 5)
                if refines(second, third, model)[0] == "yes":
                    many += 1
                    self.assertEqual(refines(first, third, model)[0], "yes")

    def test_failures_and_traces(self):
        source = random.Random(26)
        for _ in range(150):
            first, second = related(source, "failures")
            self.assertEqual(refines(first, second, "traces")[0], "yes")

    def test_kept_by_putting_together(self):
        source = random.Random(27)
        for model in MODELS:
            for _ in range(120):
                first, second = related(source, model)
                third = naive.random_system(source)
                events = tuple(event for event in ("a", "b") if source.random() < 0.5)
                pairs = tuple((old, source.choice(("a", "b", "c"))) for old in ("a", "b") if source.random() < 0.7)
                for change in (
                    lambda system: side_by_side(system, third, events),
                    lambda system: side_by_side(third, system, events),
                    lambda system: hidden(system, events),
                    lambda system: renamed(system, pairs),
                ):
                    self.assertEqual(refines(change(first), change(second), model)[0], "yes")


class LargeTest(unittest.TestCase):
    def test_chains_of_events(self):
        chain = naive.line(*["a"] * 6000)
        for model in MODELS:
            self.assertEqual(refines(chain, chain, model), ("yes", [(at, (at,)) for at in range(6001)]))
        longer = naive.line(*["a"] * 6001)
        self.assertEqual(refines(chain, longer, "traces"), ("no", ("trace", ("a",) * 6001)))
        self.assertEqual(refines(longer, chain, "failures"), ("no", ("failure", ("a",) * 6000, ())))

    def test_chains_of_tau(self):
        chain = naive.line(*["tau"] * 6000)
        for model in MODELS:
            self.assertEqual(refines(STOP, chain, model), ("yes", [(at, (0,)) for at in range(6001)]))
            word, certificate = refines(chain, chain, model)
            self.assertEqual((word, len(certificate), len(certificate[0][1])), ("yes", 6001, 6001))
        ring = naive.ring(*["tau"] * 6000)
        self.assertEqual(refines(STOP, ring, "divergences"), ("no", ("divergence", ())))
        self.assertEqual(refines(ring, chain, "divergences"), ("yes", [(0, tuple(range(6000)))]))

    def test_arguments_are_not_changed(self):
        edges = HANGING.edges
        refines(HANGING, HANGING, "divergences")
        self.assertEqual((HANGING.count, HANGING.edges), (4, edges))


if __name__ == "__main__":
    unittest.main()
