"""Tests and trials (points 51 to 55)."""

import random
import unittest

import naive_systems as naive
from parley import errors
from parley.certifying import is_difference
from parley.refining import refines
from parley.systems import System
from parley.trials import failing, is_failing, may_pass, must_pass, test_of as make_test, trial

STOP = System(1, [])
HANG = System(1, [(0, "tau", 0)])
ONE = System(2, [(0, "a", 1), (0, "b", 1)])
TWO = System(4, [(0, "tau", 1), (0, "tau", 2), (1, "a", 3), (2, "b", 3)])
WITH_PASS = System(2, [(0, "a", 1), (1, "pass", 0)])
# It is good after "a".
AFTER_A = System(2, [(0, "a", 1), (1, "pass", 1)])
ACTIONS = ("a", "b", "tau", "tau", "tick", "pass")


def trial_edges(system, test):
    """The pairs of a trial and its edges (point 51), word by word."""
    pairs = [(0, 0)]
    edges = []
    for state, other in pairs:
        for following in sorted(moves(system, test, (state, other))):
            if following[1] not in pairs:
                pairs.append(following[1])
            edges.append(((state, other), *following))
    return pairs, edges


def moves(system, test, pair):
    state, other = pair
    found = set()
    for source, action, target in system.edges:
        if source == state and action == "tau":
            found.add((action, (target, other)))
        for origin, word, partner in test.edges:
            if (source, origin) == pair and action == word and action not in ("tau", "pass"):
                found.add((action, (target, partner)))
    for origin, word, partner in test.edges:
        if origin == other and word == "tau":
            found.add((word, (state, partner)))
    return found


def is_good(test, pair):
    return any((source, action) == (pair[1], "pass") for source, action, _ in test.edges)


def must(system, test):
    """Whether every complete run is good: pairs from which some complete run is never good are looked for."""
    pairs, edges = trial_edges(system, test)
    bad = {pair for pair in pairs if not is_good(test, pair)}
    ends = {pair for pair in bad if not [1 for source, _, _ in edges if source == pair]}
    while True:
        # What remains has no way to go on for ever among the pairs that are not good.
        lasting = {pair for pair in bad if pair in ends or [1 for edge in edges if edge[0] == pair and edge[2] in bad]}
        if lasting == bad:
            return (0, 0) not in bad
        bad = lasting


def is_failing_after_all(system, test, shown):
    pairs, back = shown
    if not pairs or pairs[0] != (0, 0):
        return False
    for state, other in pairs:
        if state not in range(system.count) or other not in range(test.count) or is_good(test, (state, other)):
            return False
    for at in range(len(pairs) - 1):
        if pairs[at + 1] not in [pair for _, pair in moves(system, test, pairs[at])]:
            return False
    following = [pair for _, pair in moves(system, test, pairs[-1])]
    if back is None:
        return not following
    return back in range(len(pairs)) and pairs[back] in following


class TrialTest(unittest.TestCase):
    def test_events_are_done_together(self):
        self.assertEqual(trial(ONE, AFTER_A), System(2, [(0, "a", 1)]))
        # "a" is an event of the test alone, and "b" of the system alone.
        self.assertEqual(trial(naive.line("b"), AFTER_A), System(1, []))
        self.assertEqual(trial(naive.line("a", "b"), AFTER_A), System(2, [(0, "a", 1)]))
        self.assertEqual(trial(STOP, AFTER_A), System(1, []))
        self.assertEqual(trial(ONE, STOP), System(1, []))

    def test_tau_of_both_sides(self):
        self.assertEqual(trial(naive.line("tau"), STOP), System(2, [(0, "tau", 1)]))
        self.assertEqual(trial(STOP, naive.line("tau")), System(2, [(0, "tau", 1)]))
        self.assertEqual(
            trial(naive.line("tau"), naive.line("tau")),
            System(4, [(0, "tau", 1), (0, "tau", 2), (1, "tau", 3), (2, "tau", 3)]),
        )

    def test_tick_is_done_together(self):
        self.assertEqual(trial(naive.line("tick"), STOP), System(1, []))
        self.assertEqual(trial(STOP, naive.line("tick")), System(1, []))
        self.assertEqual(trial(naive.line("tick"), naive.line("tick")), System(2, [(0, "tick", 1)]))

    def test_edges_with_pass_are_left_out(self):
        self.assertEqual(trial(ONE, System(2, [(0, "pass", 1), (1, "a", 0)])), System(1, []))
        self.assertEqual(trial(ONE, System(2, [(0, "pass", 0), (0, "a", 1), (1, "pass", 0)])), System(2, [(0, "a", 1)]))

    def test_numbers(self):
        test = System(3, [(0, "tau", 2), (0, "a", 1), (2, "b", 1)])
        # The pairs are (0, 0), (1, 1) and (0, 2).
        self.assertEqual(trial(ONE, test), System(3, [(0, "a", 1), (0, "tau", 2), (2, "b", 1)]))

    def test_systems_with_pass(self):
        for test in (AFTER_A, STOP, WITH_PASS):
            for call in (trial, may_pass, must_pass, failing):
                with self.assertRaises(errors.BadArgument):
                    call(WITH_PASS, test)
        # It comes before everything else, also where the edge is not reached.
        hidden = System(300, [(7, "pass", 7)] + [(state, "tau", (state + 1) % 300) for state in range(300)])
        for call in (trial, may_pass, must_pass, failing):
            with self.assertRaises(errors.BadArgument):
                call(hidden, naive.ring(*["tau"] * 300))
        with self.assertRaises(errors.BadArgument):
            is_failing(WITH_PASS, STOP, ((), None))

    def test_limits(self):
        for call in (trial, may_pass, must_pass, failing):
            with self.assertRaises(errors.TooLarge) as caught:
                call(naive.ring(*["tau"] * 200), naive.ring(*["tau"] * 101))
            self.assertEqual(caught.exception.limit, 20000)
        self.assertEqual(trial(naive.ring(*["tau"] * 200), naive.ring(*["tau"] * 100)).count, 20000)
        # Whatever the answer would be.
        good = System(101, [(0, "pass", 0)] + [(state, "tau", (state + 1) % 101) for state in range(101)])
        for call in (may_pass, must_pass, failing):
            with self.assertRaises(errors.TooLarge):
                call(naive.ring(*["tau"] * 200), good)

    def test_random_trials(self):
        source = random.Random(110)
        for _ in range(300):
            system = naive.random_system(source, 4, 8, ACTIONS[:-1])
            test = naive.random_system(source, 4, 8, ACTIONS)
            pairs, edges = trial_edges(system, test)
            expected = [(pairs.index(pair), action, pairs.index(following)) for pair, action, following in edges]
            self.assertEqual(trial(system, test), System(len(pairs), expected))

    def test_arguments_are_not_changed(self):
        edges = ONE.edges, AFTER_A.edges
        for call in (trial, may_pass, must_pass, failing):
            call(ONE, AFTER_A)
        self.assertEqual((ONE.edges, AFTER_A.edges), edges)


class PassingTest(unittest.TestCase):
    def check(self, system, test, may, always):
        self.assertIs(may_pass(system, test), may)
        self.assertIs(must_pass(system, test), always)
        shown = failing(system, test)
        if always:
            self.assertIsNone(shown)
        else:
            pairs, back = shown
            self.assertIsInstance(shown, tuple)
            self.assertIsInstance(pairs, tuple)
            self.assertEqual(len(pairs), len(set(pairs)))
            self.assertTrue(is_failing_after_all(system, test, shown), shown)
            self.assertIs(is_failing(system, test, shown), True)
        return shown

    def test_good_states(self):
        self.check(naive.line("a"), AFTER_A, True, True)
        self.check(naive.line("b"), AFTER_A, False, False)
        self.check(STOP, System(1, [(0, "pass", 0)]), True, True)
        self.check(HANG, System(1, [(0, "pass", 0)]), True, True)
        self.check(STOP, System(2, [(1, "pass", 0)]), False, False)

    def test_runs_without_an_end(self):
        ring = System(2, [(0, "tau", 0), (0, "a", 1)])
        self.assertEqual(self.check(ring, AFTER_A, True, False), (((0, 0),), 0))
        self.assertEqual(self.check(System(2, [(0, "tau", 1), (1, "tau", 1)]), AFTER_A, False, False), (((0, 0), (1, 0)), 1))
        self.check(naive.line("a"), System(2, [(0, "tau", 0), (0, "a", 1), (1, "pass", 1)]), True, False)
        self.check(naive.ring("a"), System(1, [(0, "a", 0)]), False, False)

    def test_complete_runs(self):
        self.assertEqual(self.check(System(3, [(0, "a", 1), (0, "tau", 2)]), AFTER_A, True, False), (((0, 0), (2, 0)), None))
        # What goes on behind a good state does not matter.
        self.check(System(2, [(0, "a", 1), (1, "tau", 1)]), AFTER_A, True, True)
        self.check(naive.line("a", "b"), System(3, [(0, "a", 1), (1, "pass", 1), (1, "b", 2)]), True, True)
        # A run that has not ended is not complete.
        self.check(naive.line("tau", "tau", "a"), AFTER_A, True, True)

    def test_either_side_goes_on_alone(self):
        test = System(3, [(0, "tau", 1), (0, "a", 2), (2, "pass", 2)])
        self.check(naive.line("a"), test, True, False)
        self.check(naive.line("tick"), System(2, [(0, "tick", 1), (1, "pass", 1)]), True, True)
        self.check(naive.line("tick"), System(2, [(0, "tau", 1), (1, "pass", 1)]), True, True)

    def test_example(self):
        test = make_test(ONE, ("failure", (), ("a",)))
        self.check(ONE, test, True, True)
        self.assertEqual(self.check(TWO, test, True, False), (((0, 0), (1, 0)), None))

    def test_ways_that_come_together(self):
        # Each of the pairs is looked at once, though many runs lead there.
        edges = []
        for state in range(0, 60, 3):
            edges += [(state, "tau", state + 1), (state, "tau", state + 2), (state + 1, "tau", state + 3), (state + 2, "tau", state + 3)]
        self.check(System(62, edges + [(60, "a", 61)]), AFTER_A, True, True)

    def test_random_trials(self):
        source = random.Random(111)
        many = {(False, False): 0, (True, False): 0, (True, True): 0}
        backs = {True: 0, False: 0}
        for _ in range(1500):
            system = naive.random_system(source, 4, 7, ACTIONS[:-1])
            test = naive.random_system(source, 4, 7, ACTIONS)
            pairs, _ = trial_edges(system, test)
            expected = any(is_good(test, pair) for pair in pairs), must(system, test)
            many[expected] += 1
            shown = self.check(system, test, *expected)
            if shown is not None:
                backs[shown[1] is None] += 1
        self.assertGreater(min(many.values()), 30, many)
        self.assertGreater(min(backs.values()), 100, backs)


class FailingTest(unittest.TestCase):
    RING = System(4, [(0, "tau", 1), (1, "tau", 2), (2, "tau", 1), (2, "a", 3)])

    def check(self, expected, system, test, pairs, back):
        self.assertIs(is_failing(system, test, (pairs, back)), expected, (pairs, back))

    def test_right_tuples(self):
        self.check(True, self.RING, AFTER_A, ((0, 0), (1, 0), (2, 0)), 1)
        # Pairs may stand there twice.
        self.check(True, self.RING, AFTER_A, ((0, 0), (1, 0), (2, 0), (1, 0), (2, 0)), 1)
        self.check(True, self.RING, AFTER_A, ((0, 0), (1, 0), (2, 0), (1, 0), (2, 0)), 3)
        self.check(True, TWO, AFTER_A, ((0, 0), (2, 0)), None)
        self.check(True, STOP, STOP, ((0, 0),), None)
        self.check(True, HANG, STOP, ((0, 0),), 0)
        self.check(True, STOP, naive.line("tau"), ((0, 0), (0, 1)), None)

    def test_no_pairs(self):
        for back in (None, 0, -1, 1):
            self.check(False, STOP, STOP, (), back)

    def test_pairs_changed_left_out_and_added(self):
        right = ((0, 0), (1, 0), (2, 0))
        for at in range(3):
            self.check(False, self.RING, AFTER_A, right[:at] + right[at + 1:], 1)
            for pair in ((3, 0), (0, 1), (3, 1), (-1, 0), (0, -1), (4, 0), (0, 2), (10**30, 0), (0, -(10**30))):
                self.check(False, self.RING, AFTER_A, right[:at] + (pair,) + right[at + 1:], 1)
                self.check(False, self.RING, AFTER_A, right[:at] + (pair,) + right[at:], 1)
                self.check(False, self.RING, AFTER_A, right + (pair,), 1)
        self.check(False, self.RING, AFTER_A, right[::-1], 1)

    def test_back(self):
        right = ((0, 0), (1, 0), (2, 0))
        for back in (0, 2, 3, 4, -1, -2, -3, 10**30, -(10**30), None):
            self.check(False, self.RING, AFTER_A, right, back)
        # A negative index is out of range, though Python would take it.
        self.check(False, HANG, STOP, ((0, 0),), -1)
        self.check(False, STOP, STOP, ((0, 0),), 0)

    def test_pairs_that_an_edge_leaves(self):
        self.check(False, TWO, AFTER_A, ((0, 0), (1, 0)), None)
        self.check(False, TWO, AFTER_A, ((0, 0),), None)
        self.check(False, STOP, naive.line("tau"), ((0, 0),), None)
        self.check(False, naive.line("tick"), naive.line("tick"), ((0, 0),), None)
        self.check(True, naive.line("tick"), STOP, ((0, 0),), None)

    def test_good_states(self):
        good = System(2, [(0, "a", 1), (1, "pass", 1)])
        self.check(False, naive.line("a"), good, ((0, 0), (1, 1)), None)
        self.check(False, STOP, System(1, [(0, "pass", 0)]), ((0, 0),), None)

    def test_systems_with_pass(self):
        for shown in (((), None), (((0, 0),), None), (((5, 5),), 7)):
            with self.assertRaises(errors.BadArgument):
                is_failing(WITH_PASS, AFTER_A, shown)

    def test_random_tuples(self):
        source = random.Random(112)
        many = [0, 0]
        for _ in range(1500):
            system = naive.random_system(source, 3, 6, ACTIONS[:-1])
            test = naive.random_system(source, 3, 5, ACTIONS)
            shown = failing(system, test)
            pairs, back = shown if shown is not None else (((0, 0),), None)
            if source.random() < 0.5:
                at = source.randrange(len(pairs))
                drawn = (source.randrange(-1, system.count + 1), source.randrange(-1, test.count + 1))
                pairs = pairs[:at] + (drawn,) * source.randint(0, 1) + pairs[at + source.randint(0, 1):]
            if source.random() < 0.3:
                back = source.choice((None, 0, 1, -1, len(pairs) - 1, len(pairs)))
            expected = is_failing_after_all(system, test, (pairs, back))
            many[expected] += 1
            self.check(expected, system, test, pairs, back)
        self.assertGreater(min(many), 300, many)


class MakeTestTest(unittest.TestCase):
    def test_traces(self):
        self.assertEqual(make_test(ONE, ("trace", ())), System(2, [(1, "pass", 1)]))
        self.assertEqual(
            make_test(ONE, ("trace", ("a", "x"))),
            System(4, [(0, "a", 1), (0, "tau", 3), (1, "x", 2), (1, "tau", 3), (3, "pass", 3)]),
        )

    def test_divergences(self):
        self.assertEqual(make_test(ONE, ("divergence", ())), System(2, [(0, "tau", 1), (1, "pass", 1)]))
        self.assertEqual(
            make_test(ONE, ("divergence", ("tick",))),
            System(3, [(0, "tick", 1), (0, "tau", 2), (1, "tau", 2), (2, "pass", 2)]),
        )

    def test_failures(self):
        self.assertEqual(
            make_test(ONE, ("failure", (), ())),
            System(2, [(0, "a", 1), (0, "b", 1), (0, "tick", 1), (1, "pass", 1)]),
        )
        # Offers that are no events of the first system do not matter.
        self.assertEqual(make_test(ONE, ("failure", (), ("a", "b", "tick"))), System(2, [(1, "pass", 1)]))
        self.assertEqual(make_test(ONE, ("failure", (), ("a", "x"))), System(2, [(0, "b", 1), (0, "tick", 1), (1, "pass", 1)]))
        self.assertEqual(
            make_test(ONE, ("failure", ("b",), ("tick",))),
            System(3, [(0, "b", 1), (0, "tau", 2), (1, "a", 2), (1, "b", 2), (2, "pass", 2)]),
        )
        self.assertEqual(make_test(STOP, ("failure", (), ("x",))), System(2, [(0, "tick", 1), (1, "pass", 1)]))

    def test_pass(self):
        for first, behaviour in (
            (ONE, ("trace", ("a", "pass"))),
            (ONE, ("divergence", ("pass",))),
            (ONE, ("failure", ("pass",), ())),
            (ONE, ("failure", (), ("a", "pass"))),
            (WITH_PASS, ("trace", ())),
            (WITH_PASS, ("divergence", ())),
            (WITH_PASS, ("failure", (), ())),
            (System(3, [(2, "pass", 2)]), ("trace", ())),
        ):
            with self.assertRaises(errors.BadArgument):
                make_test(first, behaviour)

    def test_differences_give_tests(self):
        """Point 55: the first system must pass the test of a difference, and the second one need not."""
        source = random.Random(113)
        kinds = {"trace": 0, "divergence": 0, "failure": 0}
        for _ in range(600):
            first, second = naive.random_system(source, 4, 7), naive.random_system(source, 4, 7)
            word, shown = refines(first, second, "divergences")
            if word == "no":
                kinds[shown[0]] += 1
                test = make_test(first, shown)
                self.assertIs(must_pass(first, test), True)
                self.assertIs(must_pass(second, test), False)
        self.assertGreater(min(kinds.values()), 30, kinds)

    def test_all_differences_give_tests(self):
        source = random.Random(114)
        many = 0
        for _ in range(200):
            first, second = naive.random_system(source, 3, 5), naive.random_system(source, 3, 5)
            for trace in naive.traces(second, 2):
                for behaviour in naive.behaviours_at(second, trace):
                    if is_difference(first, second, "divergences", behaviour):
                        many += 1
                        test = make_test(first, behaviour)
                        self.assertEqual([must_pass(first, test), must_pass(second, test)], [True, False])
        self.assertGreater(many, 200)

    def test_refinement_and_tests(self):
        """Point 55: what refines must pass, or may pass in "traces", what is to be passed."""
        source = random.Random(115)
        many = [0, 0]
        for _ in range(400):
            first, second = naive.random_system(source, 3, 5), naive.random_system(source, 3, 4)
            tests = [naive.random_system(source, 4, 8, ACTIONS) for _ in range(6)]
            if refines(first, second, "divergences")[0] == "yes":
                many[0] += 1
                for test in tests:
                    self.assertFalse(must_pass(first, test) and not must_pass(second, test))
            if refines(first, second, "traces")[0] == "yes":
                many[1] += 1
                for test in tests:
                    self.assertFalse(may_pass(second, test) and not may_pass(first, test))
        self.assertGreater(min(many), 60, many)

    def test_traces_that_may_pass(self):
        source = random.Random(116)
        for _ in range(200):
            first, second = naive.random_system(source, 3, 5), naive.random_system(source, 3, 4)
            word, shown = refines(first, second, "traces")
            if word == "no":
                trace = shown[1]
                edges = [(at, action, at + 1) for at, action in enumerate(trace)] + [(len(trace), "pass", len(trace))]
                test = System(len(trace) + 1, edges)
                self.assertEqual([may_pass(first, test), may_pass(second, test)], [False, True])


class LargeTest(unittest.TestCase):
    def test_chains_and_rings(self):
        for word in ("a", "tau"):
            chain = naive.line(*[word] * 19999)
            other = naive.line("a") if word == "tau" else chain
            shown = failing(chain, STOP if word == "tau" else other)
            self.assertEqual((len(shown[0]), shown[1]), (20000, None))
            self.assertIs(is_failing(chain, STOP if word == "tau" else other, shown), True)
        ring = naive.ring(*["tau"] * 20000)
        shown = failing(ring, STOP)
        self.assertEqual((len(shown[0]), shown[1]), (20000, 0))
        self.assertIs(is_failing(ring, STOP, shown), True)
        self.assertIs(is_failing(ring, STOP, (shown[0], 1)), False)
        test = make_test(STOP, ("trace", ("a",) * 9000))
        self.assertIs(must_pass(naive.line(*["a"] * 8999), test), True)
        self.assertIs(must_pass(naive.line(*["a"] * 9000), test), False)


if __name__ == "__main__":
    unittest.main()
