"""The small checker for refinements (point 23)."""

import random
import unittest

import naive_systems as naive
from naive_systems import MODELS
from parley import errors
from parley.certifying import is_certificate, is_difference
from parley.refining import refines
from parley.systems import System

CHOICE = System(2, [(0, "a", 1), (0, "b", 1)])
INTERNAL = System(4, [(0, "tau", 1), (0, "tau", 2), (1, "a", 3), (2, "b", 3)])
CERTIFICATE = [(0, (0,)), (1, (0,)), (2, (0,)), (3, (1,))]
HANGING = System(2, [(0, "a", 1), (1, "tau", 1)])


class CertificateTest(unittest.TestCase):
    def check(self, expected, first, second, model, certificate):
        self.assertIs(is_certificate(first, second, model, certificate), expected, certificate)
        self.assertIs(naive.is_certificate(first, second, model, certificate), expected, certificate)

    def test_right_ones(self):
        self.check(True, CHOICE, INTERNAL, "traces", CERTIFICATE)
        self.check(False, CHOICE, INTERNAL, "failures", CERTIFICATE)
        self.check(False, CHOICE, INTERNAL, "divergences", CERTIFICATE)
        for model in MODELS:
            self.check(True, INTERNAL, CHOICE, model, [(0, (0, 1, 2)), (1, (3,))])

    def test_pairs_left_out(self):
        for at in range(len(CERTIFICATE)):
            self.check(False, CHOICE, INTERNAL, "traces", CERTIFICATE[:at] + CERTIFICATE[at + 1:])
        self.check(False, CHOICE, INTERNAL, "traces", [])
        self.check(False, System(1, []), System(1, []), "traces", [])

    def test_pairs_added(self):
        for pair in ((1, (0, 1)), (3, (0,)), (3, ())):
            self.check(True, CHOICE, INTERNAL, "traces", sorted(CERTIFICATE + [pair]))
        # Here something is missing that follows the pair, or the first system has no state after the action.
        for pair in ((0, (1,)), (0, (0, 1)), (1, (1,)), (1, ())):
            self.check(False, CHOICE, INTERNAL, "traces", sorted(CERTIFICATE + [pair]))
        # In other models a stable state asks for a stable state with no other offers.
        same = [(0, (0,)), (1, (1,))]
        self.check(True, CHOICE, CHOICE, "failures", same)
        self.check(True, CHOICE, CHOICE, "failures", sorted(same + [(1, (0, 1))]))
        self.check(False, CHOICE, CHOICE, "failures", same[:1] + [(1, (0,))] + same[1:])
        self.check(False, CHOICE, CHOICE, "failures", same[:1] + [(1, ())] + same[1:])
        self.check(True, CHOICE, CHOICE, "traces", same[:1] + [(1, ())] + same[1:])

    def test_pairs_doubled_or_out_of_order(self):
        self.check(False, CHOICE, INTERNAL, "traces", CERTIFICATE[:1] + CERTIFICATE)
        self.check(False, CHOICE, INTERNAL, "traces", CERTIFICATE + CERTIFICATE[-1:])
        self.check(False, CHOICE, INTERNAL, "traces", CERTIFICATE[::-1])
        self.check(False, CHOICE, INTERNAL, "traces", [CERTIFICATE[at] for at in (0, 2, 1, 3)])

    def test_states_that_there_are_not(self):
        for pair in ((-1, (0,)), (4, (0,)), (10**30, ()), (3, (2,)), (3, (-1,)), (3, (-1, 0)), (3, (0, 10**30)), (-5, (-5,))):
            for model in MODELS:
                self.check(False, INTERNAL, INTERNAL, model, sorted([(0, (0, 1, 2)), (3, (3, 4))] + [pair]))
                self.check(False, CHOICE, INTERNAL, model, sorted(CERTIFICATE + [pair]))

    def test_tuples_that_do_not_ascend(self):
        for states in ((1, 0), (0, 0), (1, 1), (0, 1, 1), (1, 0, 1)):
            self.check(False, CHOICE, INTERNAL, "traces", sorted(CERTIFICATE + [(3, states)]))

    def test_wrong_start(self):
        self.check(False, INTERNAL, CHOICE, "traces", [(0, (0,)), (1, (3,))])
        self.check(False, INTERNAL, CHOICE, "traces", [(0, (1, 2)), (1, (3,))])
        self.check(False, INTERNAL, CHOICE, "traces", [(1, (3,))])

    def test_open_pairs(self):
        anything = System(3, [(0, "a", 1), (1, "tau", 2), (2, "x", 2), (2, "tau", 2)])
        self.check(True, HANGING, anything, "divergences", [(0, (0,)), (1, (1,))])
        self.check(False, HANGING, anything, "failures", [(0, (0,)), (1, (1,))])
        self.check(True, HANGING, anything, "divergences", [(0, (0,)), (1, (1,)), (2, (0, 1))])
        self.check(False, HANGING, anything, "divergences", [(0, (0,)), (1, (1,)), (2, (0,))])

    def test_divergence_of_the_second_system(self):
        pairs = [(0, (0,)), (1, (1,))]
        self.check(True, System(2, [(0, "a", 1)]), HANGING, "traces", pairs)
        self.check(True, System(2, [(0, "a", 1)]), HANGING, "failures", pairs)
        self.check(False, System(2, [(0, "a", 1)]), HANGING, "divergences", pairs)
        self.check(True, HANGING, HANGING, "divergences", pairs)

    def test_unknown_models(self):
        for model in ("", "weak", "Traces"):
            for call in (
                lambda: is_certificate(CHOICE, INTERNAL, model, []),
                lambda: is_difference(CHOICE, INTERNAL, model, ("trace", ())),
                lambda: is_difference(CHOICE, INTERNAL, model, ("failure", (), ("a",))),
            ):
                with self.assertRaises(errors.UnknownModel) as caught:
                    call()
                self.assertEqual(caught.exception.model, model)

    def test_list_stays_as_it_is(self):
        for pairs in (CERTIFICATE, CERTIFICATE[::-1], []):
            copy = list(pairs)
            is_certificate(CHOICE, INTERNAL, "traces", copy)
            self.assertEqual(copy, pairs)

    def test_random_systems(self):
        source = random.Random(23)
        many = [0, 0]
        for _ in range(400):
            first, second = naive.random_system(source, 3, 6), naive.random_system(source, 3, 4)
            for model in MODELS:
                pairs = naive.pairs_of(first, second, model)
                self.check(refines(first, second, model)[0] == "yes", first, second, model, pairs)
                for _ in range(3):
                    drawn = [pair for pair in pairs if source.random() < 0.9]
                    if source.random() < 0.5:
                        states = tuple(state for state in range(first.count) if source.random() < 0.5)
                        drawn = sorted(set(drawn) | {(source.randrange(second.count), states)})
                    expected = naive.is_certificate(first, second, model, drawn)
                    many[expected] += 1
                    self.check(expected, first, second, model, drawn)
        self.assertGreater(min(many), 100, many)

    def test_large_certificates(self):
        for word in ("a", "tau"):
            chain = naive.line(*[word] * 8000)
            for model in MODELS:
                certificate = refines(chain, chain, model)[1]
                self.assertIs(is_certificate(chain, chain, model, certificate), True)
                self.assertIs(is_certificate(chain, chain, model, certificate[:-1]), False)


class DifferenceTest(unittest.TestCase):
    def check(self, first, second, behaviour, *expected):
        found = [is_difference(first, second, model, behaviour) for model in MODELS]
        self.assertEqual(found, list(expected), behaviour)
        self.assertTrue(all(isinstance(answer, bool) for answer in found))

    def test_differences(self):
        self.check(System(2, [(0, "a", 1)]), CHOICE, ("trace", ("b",)), True, True, True)
        self.check(CHOICE, INTERNAL, ("failure", (), ("a",)), False, True, True)
        self.check(System(2, [(0, "a", 1)]), HANGING, ("divergence", ("a",)), False, False, True)
        # It need not be the least one.
        self.check(CHOICE, INTERNAL, ("failure", (), ("b",)), False, True, True)

    def test_behaviours_that_the_second_system_has_not(self):
        self.check(CHOICE, INTERNAL, ("trace", ("c",)), False, False, False)
        self.check(CHOICE, INTERNAL, ("failure", (), ()), False, False, False)
        self.check(CHOICE, INTERNAL, ("failure", ("a", "a"), ()), False, False, False)
        self.check(CHOICE, INTERNAL, ("divergence", ()), False, False, False)

    def test_behaviours_that_the_first_system_allows(self):
        self.check(CHOICE, INTERNAL, ("trace", ("b",)), False, False, False)
        self.check(CHOICE, INTERNAL, ("failure", ("a",), ()), False, False, False)
        self.check(HANGING, HANGING, ("divergence", ("a",)), False, False, False)
        self.check(HANGING, System(3, [(0, "a", 1), (1, "b", 2)]), ("trace", ("a", "b")), True, True, False)
        self.check(HANGING, System(2, [(0, "a", 1)]), ("failure", ("a",), ()), False, True, False)

    def test_what_is_shown_is_a_difference(self):
        source = random.Random(28)
        for _ in range(300):
            first, second = naive.random_system(source), naive.random_system(source)
            for model in MODELS:
                word, shown = refines(first, second, model)
                if word == "no":
                    self.assertIs(is_difference(first, second, model, shown), True)
                    self.assertIs(is_difference(second, second, model, shown), False)


if __name__ == "__main__":
    unittest.main()
