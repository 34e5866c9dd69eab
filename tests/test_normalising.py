"""Normal forms and their pictures (points 25 to 28)."""

import random
import unittest

import naive_systems as naive
from naive_systems import MODELS
from parley import errors
from parley.normalising import are_equal, normal_form, picture
from parley.refining import refines
from parley.systems import System


class NormalFormTest(unittest.TestCase):
    def check(self, system, model, *nodes):
        form = normal_form(system, model)
        self.assertEqual(form, tuple(nodes))
        self.assertIsInstance(form, tuple)
        self.assertTrue(all(isinstance(node[2], bool) for node in form))

    def test_no_edges(self):
        self.check(System(1, []), "traces", ((), (), False))
        self.check(System(1, []), "failures", ((), ((),), False))
        self.check(System(1, []), "divergences", ((), ((),), False))

    def test_traces(self):
        system = System(4, [(0, "tau", 1), (0, "tau", 2), (1, "a", 3), (2, "b", 3)])
        self.check(system, "traces", ((("a", 1), ("b", 1)), (), False), ((), (), False))

    def test_smallest_offers_only(self):
        edges = [(0, "tau", state) for state in (1, 2, 3, 4)]
        edges += [(1, "b", 5), (2, "a", 5), (2, "c", 5), (3, "b", 5), (3, "c", 5), (4, "a", 5), (4, "tick", 5)]
        moves = (("a", 1), ("b", 1), ("c", 1), ("tick", 1))
        for model in ("failures", "divergences"):
            self.check(
                System(6, edges), model, (moves, (("a", "c"), ("a", "tick"), ("b",)), False), ((), ((),), False),
            )
        self.check(System(6, edges), "traces", (moves, (), False), ((), (), False))
        edges = [(0, "tau", 1), (0, "tau", 2), (2, "a", 0)]
        self.check(System(3, edges), "failures", ((("a", 0),), ((),), False))

    def test_offers_are_ordered_as_tuples(self):
        edges = [(0, "tau", 1), (0, "tau", 2), (0, "tau", 3), (1, "c", 0), (2, "a", 0), (2, "b", 0), (3, "b", 0), (3, "d", 0)]
        form = normal_form(System(4, edges), "failures")
        self.assertEqual(form[0][1], (("a", "b"), ("b", "d"), ("c",)))

    def test_no_stable_state(self):
        system = System(2, [(0, "tau", 0), (0, "a", 1)])
        self.check(system, "traces", ((("a", 1),), (), False), ((), (), False))
        self.check(system, "failures", ((("a", 1),), (), False), ((), ((),), False))
        self.check(system, "divergences", ((), (), True))

    def test_divergences(self):
        # Behind the divergence after "a" nothing is looked at; that after "b" shares its node.
        edges = [(0, "a", 1), (1, "tau", 2), (2, "tau", 1), (1, "c", 0), (0, "b", 3), (3, "tau", 3), (3, "d", 3), (0, "c", 4)]
        self.check(
            System(5, edges), "divergences",
            ((("a", 1), ("b", 1), ("c", 2)), (("a", "b", "c"),), False), ((), (), True), ((), ((),), False),
        )
        self.check(
            System(5, edges), "traces",
            ((("a", 1), ("b", 2), ("c", 3)), (), False), ((("c", 0),), (), False), ((("d", 2),), (), False), ((), (), False),
        )

    def test_numbering(self):
        # Breadth comes first, and the moves are taken in ascending order.
        system = System(7, [(0, "b", 1), (0, "a", 2), (2, "z", 3), (1, "y", 4), (2, "tick", 5), (3, "x", 6), (4, "w", 0)])
        self.check(
            system, "traces",
            ((("a", 1), ("b", 2)), (), False),
            ((("tick", 3), ("z", 4)), (), False),
            ((("y", 5),), (), False),
            ((), (), False),
            ((("x", 3),), (), False),
            ((("w", 0),), (), False),
        )

    def test_traces_that_share_a_node(self):
        self.check(naive.ring("a", "a", "a", "a"), "failures", ((("a", 0),), (("a",),), False))
        self.check(naive.ring("a", "tau"), "divergences", ((("a", 0),), (("a",),), False))
        self.check(naive.ring("a", "b", "a", "b"), "traces", ((("a", 1),), (), False), ((("b", 0),), (), False))
        # Equal ends are shared, unequal lengths are not.
        system = System(6, [(0, "a", 1), (0, "b", 2), (1, "c", 3), (2, "c", 4), (4, "c", 5)])
        self.check(
            system, "traces",
            ((("a", 1), ("b", 2)), (), False), ((("c", 3),), (), False), ((("c", 1),), (), False), ((), (), False),
        )

    def test_offers_keep_nodes_apart(self):
        system = System(6, [(0, "a", 1), (0, "b", 2), (1, "tau", 3), (1, "c", 5), (2, "c", 5), (3, "c", 5), (3, "tau", 3)])
        self.check(system, "traces", ((("a", 1), ("b", 1)), (), False), ((("c", 2),), (), False), ((), (), False))
        self.check(
            system, "failures",
            ((("a", 1), ("b", 2)), (("a", "b"),), False),
            ((("c", 3),), (), False), ((("c", 3),), (("c",),), False), ((), ((),), False),
        )
        self.check(
            system, "divergences",
            ((("a", 1), ("b", 2)), (("a", "b"),), False),
            ((), (), True), ((("c", 3),), (("c",),), False), ((), ((),), False),
        )

    def test_limits(self):
        chain = naive.line(*["a"] * 9)
        for model in MODELS:
            self.assertEqual(len(normal_form(chain, model, limit=10)), 10)
            self.too_large(9, chain, model, limit=9)
            self.too_large(1, chain, model, limit=1)
            self.assertEqual(len(normal_form(System(1, []), model, limit=1)), 1)
        self.assertEqual(len(normal_form(naive.line(*["a"] * 1999), "traces")), 2000)
        self.too_large(2000, naive.line(*["a"] * 2000), "traces")

    def test_limit_counts_tuples_and_not_nodes(self):
        ring = naive.ring("a", "a", "a")
        self.assertEqual(normal_form(ring, "traces", limit=3), (((("a", 0),), (), False),))
        self.too_large(2, ring, "traces", limit=2)
        # Different tuples with a divergence share one node, but what is behind them does not count.
        system = System(5, [(0, "a", 1), (0, "b", 2), (1, "tau", 1), (2, "tau", 2), (1, "a", 3), (3, "a", 4)])
        self.assertEqual(len(normal_form(system, "divergences", limit=3)), 2)
        self.too_large(2, system, "divergences", limit=2)
        self.too_large(4, system, "failures", limit=4)
        self.assertEqual(len(normal_form(system, "failures", limit=5)), 5)

    def too_large(self, due, *arguments, **options):
        with self.assertRaises(errors.TooLarge) as caught:
            normal_form(*arguments, **options)
        self.assertEqual(caught.exception.limit, due)

    def test_unknown_models(self):
        long = naive.line("a", "a", "a")
        for model in ("", "trace", "FAILURES"):
            for call in (
                lambda: normal_form(long, model, limit=1),
                lambda: picture(normal_form(long, "traces"), model),
                lambda: are_equal(long, long, model, limit=1),
            ):
                with self.assertRaises(errors.UnknownModel) as caught:
                    call()
                self.assertEqual(caught.exception.model, model)

    def test_random_systems(self):
        source = random.Random(29)
        for _ in range(500):
            system = naive.random_system(source, 5, 9)
            for model in MODELS:
                form, many = naive.normal_form(system, model)
                self.assertEqual(normal_form(system, model, limit=many), form)
                if many > 1:
                    self.too_large(many - 1, system, model, limit=many - 1)


class PictureTest(unittest.TestCase):
    def check(self, form, model, count, *edges):
        self.assertEqual(picture(form, model), System(count, list(edges)))

    def test_traces(self):
        form = (((("a", 1), ("b", 0)), (), False), ((("tick", 1),), (), False))
        self.check(form, "traces", 2, (0, "a", 1), (0, "b", 0), (1, "tick", 1))

    def test_diverging_nodes(self):
        form = (((("a", 1),), (("a",),), False), ((), (), True))
        self.check(form, "divergences", 3, (0, "tau", 1), (0, "a", 2), (1, "a", 2), (2, "tau", 2))
        self.check((((), (), True),), "divergences", 1, (0, "tau", 0))

    def test_offers(self):
        form = (
            ((("a", 0), ("b", 1), ("c", 2)), (("a", "b"), ("c",)), False),
            ((), ((),), False),
            ((("a", 1),), ((),), False),
        )
        for model in ("failures", "divergences"):
            self.check(
                form, model, 7,
                (0, "tau", 1), (0, "tau", 2), (0, "a", 0), (0, "b", 3), (0, "c", 5),
                (1, "a", 0), (1, "b", 3), (2, "c", 5), (3, "tau", 4), (5, "tau", 6), (5, "a", 3),
            )

    def test_nodes_without_offers(self):
        form = (((("a", 1),), (), False), ((), (), False))
        self.check(form, "failures", 2, (0, "a", 1), (0, "tau", 0), (1, "tau", 1))
        self.check(form, "divergences", 2, (0, "a", 1), (0, "tau", 0), (1, "tau", 1))
        self.check(form, "traces", 2, (0, "a", 1))

    def test_too_many_states(self):
        form = normal_form(naive.line(*["a"] * 9999), "failures", limit=10000)
        self.assertEqual(picture(form, "failures").count, 20000)
        form = normal_form(naive.line(*["a"] * 10000), "failures", limit=10001)
        with self.assertRaises(errors.BadSystem):
            picture(form, "failures")
        with self.assertRaises(errors.UnknownModel):
            picture(form, "none")

    def test_form_of_the_picture(self):
        source = random.Random(30)
        for _ in range(400):
            system = naive.random_system(source, 5, 9)
            for model in MODELS:
                form = normal_form(system, model)
                drawn = picture(form, model)
                self.assertEqual(normal_form(drawn, model), form)
                self.assertEqual(refines(system, drawn, model)[0], "yes")
                self.assertEqual(refines(drawn, system, model)[0], "yes")


class EqualityTest(unittest.TestCase):
    def test_equal_and_different(self):
        one = System(2, [(0, "a", 1), (0, "b", 1)])
        two = System(4, [(0, "tau", 1), (0, "tau", 2), (1, "a", 3), (2, "b", 3)])
        self.assertEqual([are_equal(one, two, model) for model in MODELS], [True, False, False])
        self.assertIs(are_equal(one, one, "failures"), True)
        self.assertIs(are_equal(one, two, "failures"), False)

    def test_limits(self):
        short, long = naive.line("a"), naive.line("a", "a", "a")
        for pair in ((short, long), (long, short), (long, long)):
            with self.assertRaises(errors.TooLarge) as caught:
                are_equal(*pair, "traces", limit=3)
            self.assertEqual(caught.exception.limit, 3)
            self.assertIs(are_equal(*pair, "traces", limit=4), pair == (long, long))

    def test_equal_if_each_refines_the_other_one(self):
        source = random.Random(31)
        many = 0
        while many < 150:
            first, second = naive.random_system(source, 3, 4), naive.random_system(source, 3, 4)
            for model in MODELS:
                words = [refines(first, second, model)[0], refines(second, first, model)[0]]
                self.assertIs(are_equal(first, second, model), words == ["yes", "yes"])
                many += words == ["yes", "yes"]


class LargeTest(unittest.TestCase):
    def test_chains(self):
        form = normal_form(naive.line(*["a"] * 8000), "failures", limit=8001)
        self.assertEqual(len(form), 8001)
        self.assertEqual(form[-1], ((), ((),), False))
        self.assertEqual(form[0], ((("a", 1),), (("a",),), False))
        self.assertEqual(normal_form(naive.line(*["tau"] * 8000), "failures"), (((), ((),), False),))
        self.assertEqual(normal_form(naive.ring(*["tau"] * 8000), "divergences"), (((), (), True),))
        self.assertEqual(normal_form(naive.ring(*["a"] * 8000), "traces", limit=8000), (((("a", 0),), (), False),))

    def test_arguments_are_not_changed(self):
        system = naive.ring("a", "tau")
        edges = system.edges
        normal_form(system, "failures")
        self.assertEqual(system.edges, edges)


if __name__ == "__main__":
    unittest.main()
