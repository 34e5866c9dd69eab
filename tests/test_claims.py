"""Claims and their texts, and what speaks against them (points 46 to 48)."""

import random
import unittest

import naive_equivalence as equal
import naive_systems as naive
from parley import errors
from parley.claims import (
    format_claims,
    indeterminacy,
    is_stuck_after,
    looping_trace,
    parse_claims,
    show_claim,
    stuck_trace,
)
from parley.systems import System

STOP = System(1, [])
LINES = [
    (("refines", "traces", "P", "Q"), "P <= Q in traces"),
    (("refines", "failures", "Q", "P"), "Q <= P in failures"),
    (("refines", "divergences", "P1", "Pq"), "P1 <= Pq in divergences"),
    (("strong", "P", "Q"), "P == Q"),
    (("weak", "P", "P"), "P ~~ P"),
    (("unstuck", "Abcdefghij12"), "Abcdefghij12 never stuck"),
    (("unlooped", "Q"), "Q never loops"),
    (("determinate", "Q"), "Q determinate"),
]


class TextTest(unittest.TestCase):
    def test_lines(self):
        for claim, line in LINES:
            self.assertEqual(show_claim(claim), line)
            self.assertEqual(format_claims([claim]), line)
            self.assertEqual(parse_claims(line), [claim])

    def test_several_lines(self):
        claims = [claim for claim, _ in LINES]
        text = "\n".join(line for _, line in LINES)
        self.assertEqual(format_claims(claims), text)
        self.assertEqual(parse_claims(text), claims)

    def test_no_claims(self):
        self.assertEqual(format_claims([]), "")
        for text in ("", "   ", "\n", "  \n\n \n"):
            self.assertEqual(parse_claims(text), [])

    def test_spaces_and_lines_of_spaces(self):
        text = "\n  P   <=  Q in    traces \n   \nP ==   Q\n   P never  stuck\n\nP     determinate  \n  "
        expected = [("refines", "traces", "P", "Q"), ("strong", "P", "Q"), ("unstuck", "P"), ("determinate", "P")]
        self.assertEqual(parse_claims(text), expected)

    def bad(self, line, text):
        with self.assertRaises(errors.BadText) as caught:
            parse_claims(text)
        self.assertEqual(caught.exception.line, line, text)

    def test_wrong_lines(self):
        for row in (
            # names
            "p == Q", "P == q", "P == tau", "Abcdefghijk12 == Q", "P ~~ Q_", "1 never stuck", "P. never loops", "p determinate",
            "P <= 1 in traces", "never never stuck",
            # models and signs
            "P <= Q in weak", "P <= Q in trace", "P <= Q in Traces", "P >= Q in traces", "P = Q", "P === Q", "P ~ Q", "P => Q",
            "P <= Q on traces", "P == Q in traces", "P ~~ Q in traces",
            # words
            "P never", "P never stop", "P never stuck loops", "P never stuck stuck", "never stuck", "P loops", "P always stuck",
            "P is determinate", "P not determinate", "determinate", "P determinate Q", "P Q determinate", "P Determinate",
            "P", "P Q", "P ==", "== Q", "P == Q R", "P Q == R", "P <= Q", "P <= Q in", "P <= Q traces", "<= Q in traces",
            "P <= Q in traces traces", "P <= Q in traces failures", "P P <= Q in traces",
            # spaces
            "P==Q", "P ==Q", "P== Q", "P~~Q", "P<=Q in traces", "P <=Q in traces", "P <= Qin traces", "P <= Q intraces",
            "P neverstuck", "Pnever stuck", "Pdeterminate", "P never-stuck", "P < = Q in traces", "P = = Q",
            # other signs
            "P == Q.", "# P == Q", "P == Q;", ".", "=", "(P == Q)",
        ):
            self.bad(1, row)
            self.bad(1, "  " + row + "   ")
            self.bad(3, "P == Q\n  \n" + row + "\nP == Q\nwrong")

    def test_first_wrong_line(self):
        self.bad(2, "P == Q\nP = Q\nP = Q")
        self.bad(4, "\n\n\nP = Q\n")
        self.bad(1, "x\n" * 5)

    def test_random_claims(self):
        source = random.Random(90)
        for _ in range(200):
            claims = [random_claim(source, ("P", "Q", "Long2", "X" * 12)) for _ in range(source.randint(0, 8))]
            copy = list(claims)
            self.assertEqual(parse_claims(format_claims(claims)), claims)
            self.assertEqual(claims, copy)

    def test_long_texts(self):
        claims = [claim for claim, _ in LINES] * 2000
        self.assertEqual(parse_claims(format_claims(claims)), claims)
        self.bad(20001, "\n" * 20000 + "P == Q ==" * 5000)


def random_claim(source, names):
    kind = source.choice(("refines", "strong", "weak", "unstuck", "unlooped", "determinate"))
    if kind == "refines":
        return (kind, source.choice(naive.MODELS), source.choice(names), source.choice(names))
    if kind in ("strong", "weak"):
        return (kind, source.choice(names), source.choice(names))
    return (kind, source.choice(names))


class StuckTest(unittest.TestCase):
    def test_stuck(self):
        self.assertEqual(stuck_trace(STOP), ())
        self.assertEqual(stuck_trace(naive.line("a", "tau", "b")), ("a", "b"))
        self.assertEqual(stuck_trace(naive.line("tau", "tau")), ())
        self.assertIsNone(stuck_trace(naive.ring("a", "b")))
        # Whoever hangs is not stuck.
        self.assertIsNone(stuck_trace(System(1, [(0, "tau", 0)])))
        self.assertIsNone(stuck_trace(System(2, [(0, "a", 0)])))

    def test_ending_is_not_stuck(self):
        self.assertIsNone(stuck_trace(naive.line("tick")))
        self.assertIsNone(stuck_trace(naive.line("a", "tick", "tau")))
        self.assertEqual(stuck_trace(naive.line("tick", "a")), ("tick", "a"))
        # The same state is reached by a trace that does not end with "tick", too.
        self.assertEqual(stuck_trace(System(3, [(0, "tick", 1), (0, "a", 2), (2, "b", 1)])), ("a", "b"))
        self.assertEqual(stuck_trace(System(3, [(0, "tick", 1), (0, "z", 2), (2, "tau", 1)])), ("z",))
        self.assertEqual(stuck_trace(System(2, [(0, "tick", 1), (0, "tau", 1)])), ())
        self.assertEqual(stuck_trace(System(4, [(0, "tick", 1), (1, "tick", 2), (1, "tau", 3), (3, "b", 2)])), ("tick", "b"))

    def test_least_trace(self):
        system = System(5, [(0, "b", 1), (0, "a", 2), (2, "a", 1), (0, "tau", 3), (3, "c", 4)])
        self.assertEqual(stuck_trace(system), ("b",))
        self.assertEqual(stuck_trace(System(4, [(0, "b", 1), (0, "a", 2), (1, "a", 3), (2, "z", 3)])), ("a", "z"))
        # The lesser action may be done by a state that is found later.
        self.assertEqual(stuck_trace(System(4, [(0, "b", 2), (0, "tau", 1), (1, "a", 3)])), ("a",))
        # Not the number of edges counts, but the length of the trace.
        self.assertEqual(stuck_trace(System(6, [(0, "z", 1), (1, "z", 5), (0, "tau", 2), (2, "tau", 3), (3, "a", 4)])), ("a",))

    def test_is_stuck_after(self):
        system = System(4, [(0, "a", 1), (0, "a", 2), (2, "b", 0), (2, "tick", 3), (0, "tau", 3)])
        for trace, expected in (
            ((), True), (("a",), True), (("b",), False), (("a", "b"), True), (("a", "tick"), False), (("a", "b", "a"), True),
            (("c",), False), (("tick",), False), (("a", "a"), False), (("a", "tick", "a"), False),
        ):
            self.assertIs(is_stuck_after(system, trace), expected, trace)
        self.assertIs(is_stuck_after(naive.line("tick", "a"), ("tick", "a")), True)
        self.assertIs(is_stuck_after(naive.line("tick", "a"), ("tick",)), False)
        self.assertIs(is_stuck_after(naive.ring("a"), ("a",) * 1000), False)


class LoopingTest(unittest.TestCase):
    def test_looping(self):
        self.assertIsNone(looping_trace(STOP))
        self.assertIsNone(looping_trace(naive.line("tau", "a", "tau")))
        self.assertIsNone(looping_trace(naive.ring("a", "tau")))
        self.assertEqual(looping_trace(System(1, [(0, "tau", 0)])), ())
        self.assertEqual(looping_trace(System(3, [(0, "tau", 1), (1, "tau", 2), (2, "tau", 1)])), ())
        self.assertEqual(looping_trace(System(2, [(0, "a", 1), (1, "tau", 1)])), ("a",))
        self.assertEqual(looping_trace(System(2, [(0, "tick", 1), (1, "tau", 1)])), ("tick",))
        self.assertIsNone(looping_trace(System(2, [(1, "tau", 1)])))

    def test_least_trace(self):
        system = System(5, [(0, "b", 1), (0, "a", 2), (2, "a", 1), (1, "tau", 1), (0, "tau", 3), (3, "c", 4), (4, "tau", 4)])
        self.assertEqual(looping_trace(system), ("b",))
        self.assertEqual(looping_trace(System(3, [(0, "b", 1), (0, "a", 2), (1, "tau", 1), (2, "tau", 1)])), ("a",))
        system = System(4, [(0, "b", 2), (0, "tau", 1), (1, "a", 3), (2, "tau", 2), (3, "tau", 3)])
        self.assertEqual(looping_trace(system), ("a",))


class DeterminateTest(unittest.TestCase):
    def check(self, expected, system):
        self.assertEqual(indeterminacy(system), expected)

    def test_determinate(self):
        for system in (
            STOP, naive.line("a", "b"), naive.line("tau", "a", "tau", "tick"), naive.ring("a", "tau"),
            System(3, [(0, "a", 1), (0, "a", 2)]),
            System(4, [(0, "tau", 1), (0, "a", 2), (1, "a", 3)]),
            System(2, [(1, "tau", 1)]),
        ):
            self.check(None, system)

    def test_both_does_and_refuses(self):
        self.check(("both", (), "a"), System(3, [(0, "tau", 1), (0, "a", 2)]))
        self.check(("both", (), "a"), System(4, [(0, "tau", 1), (0, "tau", 2), (1, "a", 3), (2, "b", 3)]))
        self.check(("both", ("a",), "b"), System(4, [(0, "a", 1), (0, "a", 2), (1, "b", 3)]))
        self.check(("both", (), "tick"), System(3, [(0, "tau", 1), (0, "tick", 2)]))
        # What is done by a state that is not stable counts; what it does not offer is not refused.
        self.check(("both", (), "b"), System(3, [(0, "tau", 1), (0, "b", 2), (1, "a", 2)]))

    def test_divergence(self):
        self.check(("divergence", ()), System(1, [(0, "tau", 0)]))
        self.check(("divergence", ("a",)), System(2, [(0, "a", 1), (1, "tau", 1), (1, "b", 0)]))

    def test_least_trace(self):
        # A divergence comes before anything else at the same trace, and not before a shorter trace.
        self.check(("divergence", ()), System(3, [(0, "tau", 1), (1, "tau", 1), (0, "tau", 2), (1, "a", 2)]))
        self.check(("both", (), "a"), System(3, [(0, "tau", 1), (0, "a", 2), (2, "tau", 2)]))
        self.check(("both", ("a",), "c"), System(6, [(0, "a", 1), (0, "a", 2), (1, "c", 3), (0, "b", 4), (4, "tau", 4)]))
        self.check(("divergence", ("a",)), System(6, [(0, "b", 1), (0, "b", 2), (1, "c", 3), (0, "a", 4), (4, "tau", 4)]))
        self.check(("divergence", ("a",)), System(5, [(0, "a", 1), (0, "a", 2), (1, "c", 3), (2, "tau", 2)]))
        # Of several actions the least one.
        self.check(("both", (), "b"), System(3, [(0, "tau", 1), (0, "tau", 2), (1, "c", 2), (1, "b", 2)]))
        self.check(("both", (), "a"), System(4, [(0, "tau", 1), (0, "tau", 2), (1, "b", 3), (2, "c", 3), (2, "a", 3)]))

    def test_states_that_come_together_again(self):
        # 1 and 2 do the same for two steps, and then not.
        edges = [(0, "a", 1), (0, "a", 2), (1, "b", 3), (2, "b", 4), (3, "c", 5), (4, "c", 6), (5, "d", 0)]
        self.check(("both", ("a", "b", "c"), "d"), System(7, edges))
        self.check(None, System(7, edges + [(6, "d", 0)]))

    def test_random_systems(self):
        source = random.Random(91)
        kinds = {None: 0, "divergence": 0, "both": 0}
        for _ in range(1200):
            system = naive.random_system(source, 4, 6)
            # No least trace is longer than there are pairs of states; those that are drawn are shorter.
            self.assertEqual(stuck_trace(system), equal.stuck_trace(system, 4))
            self.assertEqual(looping_trace(system), equal.looping_trace(system, 4))
            found = indeterminacy(system)
            self.assertEqual(found, equal.indeterminacy(system, 5))
            kinds[found and found[0]] += 1
            for trace in naive.traces(System(1, [(0, "a", 0), (0, "tick", 0)]), 2):
                self.assertIs(is_stuck_after(system, trace), equal.is_stuck_after(system, trace))
        self.assertGreater(min(kinds.values()), 100, kinds)

    def test_systems_that_are_nearly_determinate(self):
        source = random.Random(92)
        kinds = {}
        for _ in range(1000):
            system = nearly_determinate(source)
            found = indeterminacy(system)
            self.assertEqual(found, first_of_groups(system), system.edges)
            key = found and (found[0], min(3, len(found[1])))
            kinds[key] = kinds.get(key, 0) + 1
        self.assertGreater(kinds[("both", 3)], 10, kinds)
        self.assertGreater(kinds[None], 100, kinds)


def nearly_determinate(source):
    """A system with several states for each state of one that is determinate, and with one edge more or less."""
    count = source.randint(1, 5)
    many = source.randint(count, 12)
    moves = {(state, action): source.randrange(count) for state in range(count) for action in "ab" if source.random() < 0.8}
    kin = [state if state < count else source.randrange(count) for state in range(many)]
    edges = []
    for state in range(many):
        later = [other for other in range(state + 1, many) if kin[other] == kin[state]]
        if later and source.random() < 0.5:
            edges.append((state, "tau", source.choice(later)))
        for action in "ab":
            is_done = not later or source.random() < 0.6 or ("tau" not in [edge[1] for edge in edges if edge[0] == state])
            if (kin[state], action) in moves and is_done:
                targets = [other for other in range(many) if kin[other] == moves[(kin[state], action)]]
                edges.extend((state, action, source.choice(targets)) for _ in range(2))
    if source.random() < 0.5 and edges:
        edges.pop(source.randrange(len(edges)))
    if source.random() < 0.5:
        edges.append((source.randrange(many), source.choice(("a", "b", "c", "tau")), source.randrange(many)))
    return System(many, edges)


def first_of_groups(system):
    """What `indeterminacy` is to find, looking at each tuple of states after a trace once."""
    traces = [()]
    seen = set()
    for trace in traces:
        states = naive.states_after(system, trace)
        if states not in seen:
            seen.add(states)
            if naive.any_diverges(system, states):
                return ("divergence", trace)
            if equal.clashes(system, trace):
                return ("both", trace, min(equal.clashes(system, trace)))
            traces.extend(trace + (action,) for action in naive.actions_from(system, states))
    return None


class LargeTest(unittest.TestCase):
    def test_chains_and_rings(self):
        for word in ("a", "tau"):
            chain = naive.line(*[word] * 19999)
            trace = ("a",) * 19999 if word == "a" else ()
            self.assertEqual([stuck_trace(chain), looping_trace(chain), indeterminacy(chain)], [trace, None, None])
            self.assertIs(is_stuck_after(chain, trace), True)
        ring = naive.ring(*["a", "tau"] * 10000)
        self.assertEqual([stuck_trace(ring), looping_trace(ring), indeterminacy(ring)], [None, None, None])
        ring = naive.ring(*["tau"] * 20000)
        self.assertEqual([stuck_trace(ring), looping_trace(ring), indeterminacy(ring)], [None, (), ("divergence", ())])

    def test_very_many_tuples_of_states(self):
        # After traces of "a" and "b" there are 2 ** 40 tuples of states.
        edges = [(0, "a", 0), (0, "b", 0), (0, "a", 1)]
        for state in range(1, 40):
            edges.extend([(state, "a", state + 1), (state, "b", state + 1)])
        system = System(42, edges + [(40, "a", 0), (40, "b", 0), (40, "c", 41), (41, "a", 41), (41, "b", 41)])
        self.assertEqual(stuck_trace(system), None)
        self.assertEqual(looping_trace(system), None)
        self.assertEqual(indeterminacy(system), ("both", ("a",) * 40, "c"))


if __name__ == "__main__":
    unittest.main()
