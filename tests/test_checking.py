"""Answers to claims, checking them, and reports (points 46, 47, 49 and 50)."""

import random
import unittest

import naive
import naive_equivalence as equal
import naive_systems
from parley import errors
from parley.certifying import is_certificate, is_difference
from parley.checking import answer, answers, is_shown, report
from parley.claims import format_claims, indeterminacy, looping_trace, parse_claims, stuck_trace
from parley.equivalence import compare_strongly
from parley.exploring import explore
from parley.refining import refines
from parley.scripts import Script
from parley.sheets import sheet_depth
from parley.texts import parse_process, parse_script
from parley.weakness import compare_weakly
from test_steps import crossed

SCRIPT = parse_script(
    "P = a -> P + b -> stop\n"
    "Q = a -> Q | b -> stop\n"
    "R = a -> R\n"
    "S = a -> a -> S\n"
    "T = a -> (skip ; R)\n"
    "L = a -> M / {b}\n"
    "M = b -> M\n"
    "K = a -> skip\n"
    "N = a -> b -> stop + a -> c -> stop\n"
    "O = a -> (b -> stop + c -> stop)\n"
    "E = stop"
)


def claim_of(text):
    return parse_claims(text)[0]


def system_of(name, script=SCRIPT):
    return explore(script, ("name", name))[0]


class AnswerTest(unittest.TestCase):
    def check(self, text, expected):
        found = answer(SCRIPT, claim_of(text))
        self.assertEqual(found, expected)
        self.assertIsInstance(found, tuple)
        self.assertIs(is_shown(SCRIPT, claim_of(text), found), True)

    def test_refines(self):
        self.check("P <= R in traces", refines(system_of("P"), system_of("R"), "traces"))
        self.check("P <= Q in traces", refines(system_of("P"), system_of("Q"), "traces"))
        self.assertEqual(answer(SCRIPT, claim_of("P <= Q in traces"))[0], "yes")
        self.check("P <= Q in failures", ("no", ("failure", (), ("a",))))
        self.check("R <= P in traces", ("no", ("trace", ("b",))))
        self.check("R <= L in divergences", ("no", ("divergence", ("a",))))
        self.check("L <= P in divergences", ("no", ("trace", ("b",))))

    def test_strong(self):
        self.check("R == S", ("same", [(0, 0), (0, 1)]))
        self.check("R == T", compare_strongly(system_of("R"), system_of("T")))
        self.check("N == O", compare_strongly(system_of("N"), system_of("O")))
        self.assertEqual([answer(SCRIPT, claim_of(text))[0] for text in ("R == S", "R == T", "P == P")], ["same", "different", "same"])

    def test_weak(self):
        self.check("R ~~ T", compare_weakly(system_of("R"), system_of("T")))
        self.check("N ~~ O", compare_weakly(system_of("N"), system_of("O")))
        self.assertEqual([answer(SCRIPT, claim_of(text))[0] for text in ("R ~~ T", "N ~~ O")], ["same", "different"])

    def test_unstuck(self):
        self.check("R never stuck", ("yes", ()))
        self.check("K never stuck", ("yes", ()))
        self.check("L never stuck", ("yes", ()))
        self.check("P never stuck", ("no", ("b",)))
        self.check("E never stuck", ("no", ()))
        self.check("N never stuck", ("no", ("a", "b")))

    def test_unlooped(self):
        self.check("P never loops", ("yes", ()))
        self.check("L never loops", ("no", ("a",)))

    def test_determinate(self):
        self.check("P determinate", ("yes", ()))
        self.check("T determinate", ("yes", ()))
        self.check("Q determinate", ("no", ("both", (), "a")))
        self.check("N determinate", ("no", ("both", ("a",), "b")))
        self.check("L determinate", ("no", ("divergence", ("a",))))

    def test_answers(self):
        texts = ["P <= Q in traces", "R == S", "Q determinate", "R == S"]
        claims = [claim_of(text) for text in texts]
        copy = list(claims)
        found = answers(SCRIPT, claims)
        self.assertEqual(found, [answer(SCRIPT, claim) for claim in claims])
        self.assertIsInstance(found, list)
        self.assertEqual(claims, copy)
        self.assertEqual(answers(SCRIPT, []), [])

    def unknown(self, name, text, **options):
        for call in (
            lambda: answer(SCRIPT, claim_of(text), **options),
            lambda: answers(SCRIPT, [claim_of("E == E"), claim_of(text)], **options),
            lambda: report(SCRIPT, [claim_of("E == E"), claim_of(text)], **options),
            lambda: is_shown(SCRIPT, claim_of(text), ("maybe", ()), **options),
        ):
            with self.assertRaises(errors.UnknownName) as caught:
                call()
            self.assertEqual(caught.exception.name, name)

    def test_unknown_names(self):
        for text in ("Z == P", "P == Z", "Z <= P in traces", "P ~~ Z", "Z never stuck", "Z never loops", "Z determinate", "Z == Y"):
            # It comes before TooLarge.
            for options in ({}, {"limit": 1}):
                self.unknown("Z", text, **options)
        self.unknown("Y", "Y == Z")

    def too_large(self, due, script, text, **options):
        for call in (
            lambda: answer(script, claim_of(text), **options),
            lambda: answers(script, [claim_of(text)], **options),
            lambda: report(script, [claim_of(text)], **options),
        ):
            with self.assertRaises(errors.TooLarge) as caught:
                call()
            self.assertEqual(caught.exception.limit, due)

    def shown_too_large(self, due, script, text, **options):
        for reply in (("yes", ()), ("maybe", ())):
            with self.assertRaises(errors.TooLarge) as caught:
                is_shown(script, claim_of(text), reply, **options)
            self.assertEqual(caught.exception.limit, due)

    def test_limits(self):
        self.assertEqual(answer(SCRIPT, claim_of("S never stuck"), limit=2), ("yes", ()))
        self.too_large(1, SCRIPT, "S never stuck", limit=1)
        self.shown_too_large(1, SCRIPT, "S never stuck", limit=1)
        for text in ("R <= S in traces", "S <= R in traces", "R == S", "S ~~ R"):
            self.assertEqual(answer(SCRIPT, claim_of(text), limit=2)[0], answer(SCRIPT, claim_of(text))[0])
            self.too_large(1, SCRIPT, text, limit=1)
            self.shown_too_large(1, SCRIPT, text, limit=1)
        self.assertEqual(report(SCRIPT, [claim_of("S never loops")], limit=2), "S never loops: holds\n1 of 1 hold")

    def test_limits_of_the_first_and_of_the_second_process(self):
        script = Script([
            ("WIDE", ("prefix", "b", crossed(69, 29))),
            ("LONG", parse_process(" ; ".join(["(a -> b -> c -> skip)"] * 5))),
        ])
        self.too_large(2000, script, "WIDE == LONG", limit=4)
        self.too_large(4, script, "LONG == WIDE", limit=4)
        self.shown_too_large(2000, script, "WIDE <= LONG in traces", limit=4)
        self.shown_too_large(4, script, "LONG <= WIDE in traces", limit=4)

    def test_default_limit(self):
        events = "abcdefghijkl"
        text = "P = " + " <> ".join(event + " -> stop" for event in events[:11])
        self.too_large(2000, parse_script(text), "P never stuck")

    def test_limits_of_the_comparisons(self):
        # 512 states each: so too many pairs for equivalence.
        text = " <> ".join(event + " -> stop" for event in "abcdefghi")
        script = parse_script("P = " + text + "\nQ = " + text)
        self.assertEqual(answer(script, claim_of("P <= Q in divergences"))[0], "yes")
        self.too_large(200000, script, "P == Q")
        self.too_large(200000, script, "P ~~ Q")
        # But a checker looks at what is shown.
        relation = [(state, state) for state in range(512)]
        self.assertIs(is_shown(script, claim_of("P == Q"), ("same", relation)), True)
        self.assertIs(is_shown(script, claim_of("P ~~ Q"), ("same", relation[:-1])), False)
        self.too_large(20000, pairs_script(), "P <= Q in traces")

    def test_random_claims(self):
        source = random.Random(140)
        many = {}
        while sum(many.values()) < 600 or len(many) < 16:
            pairs = [(name, naive.random_process(source, ("P", "Q"), 4)) for name in ("P", "Q")]
            if naive.first_fault(pairs) is not None or None in [naive.explored(dict(pairs), ("name", name), 30) for name in "PQ"]:
                continue
            script = Script(pairs)
            first, second = system_of("P", script), system_of("Q", script)
            for text, expected in (
                ("P <= Q in traces", refines(first, second, "traces")),
                ("P <= Q in failures", refines(first, second, "failures")),
                ("P <= Q in divergences", refines(first, second, "divergences")),
                ("P == Q", compare_strongly(first, second)),
                ("P ~~ Q", compare_weakly(first, second)),
                ("P never stuck", against(stuck_trace(first))),
                ("P never loops", against(looping_trace(first))),
                ("P determinate", against(indeterminacy(first))),
            ):
                self.check_in(script, text, expected)
                key = (text, expected[0])
                many[key] = many.get(key, 0) + 1
    def check_in(self, script, text, expected):
        self.assertEqual(answer(script, claim_of(text)), expected)
        self.assertIs(is_shown(script, claim_of(text), expected), True)


def pairs_script():
    """Two processes that run around rings of 150 and of 149 states."""
    definitions = []
    for name, many in (("P", 150), ("Q", 149)):
        for at in range(0, many, 10):
            follow = f"{name}{at + 10}" if at + 10 < many else name
            definitions.append(((name + str(at)) if at else name, prefixes(min(10, many - at), follow)))
    return Script(definitions)


def prefixes(many, name):
    process = ("name", name)
    for _ in range(many):
        process = ("prefix", "a", process)
    return process


def against(found):
    return ("yes", ()) if found is None else ("no", found)


class ReportTest(unittest.TestCase):
    def check(self, *lines):
        text = report(SCRIPT, parse_claims("\n".join(line.partition(":")[0] for line in lines[:-1])))
        self.assertEqual(text, "\n".join(lines))

    def test_example(self):
        script = parse_script("P = a -> P + b -> stop\nQ = a -> Q | b -> stop")
        text = report(script, parse_claims("P <= Q in traces\nP <= Q in failures\nQ determinate"))
        self.assertEqual(
            text,
            "P <= Q in traces: holds\nP <= Q in failures: fails after <> offers only <a>\n"
            "Q determinate: fails after <> both does and refuses a\n1 of 3 hold",
        )

    def test_no_claims(self):
        self.assertEqual(report(SCRIPT, []), "")

    def test_refines(self):
        self.check("P <= P in divergences: holds", "1 of 1 hold")
        self.check("R <= P in traces: fails after <> does b", "0 of 1 hold")
        self.check("K <= N in traces: fails after <a> does b", "0 of 1 hold")
        self.check("N <= S in traces: fails after <a> does a", "0 of 1 hold")
        self.check("R <= L in divergences: fails after <a> loops", "0 of 1 hold")
        self.check("P <= Q in failures: fails after <> offers only <a>", "0 of 1 hold")
        self.check("P <= E in failures: fails after <> offers only <>", "0 of 1 hold")
        self.check("O <= N in failures: fails after <a> offers only <b>", "0 of 1 hold")

    def test_several_actions(self):
        script = parse_script("P = a -> b -> (c -> stop + d -> stop + e -> stop)\nQ = a -> b -> (c -> stop + d -> stop)\nR = a -> b -> M / {a}\nM = a -> M\nS = a -> b -> c -> d -> stop")
        text = "P <= Q in failures\nP <= R in divergences\nS never stuck\nR never loops\nR determinate"
        self.assertEqual(
            report(script, parse_claims(text)),
            "P <= Q in failures: fails after <a, b> offers only <c, d>\n"
            "P <= R in divergences: fails after <a, b> loops\n"
            "S never stuck: fails after <a, b, c, d>\n"
            "R never loops: fails after <a, b>\n"
            "R determinate: fails after <a, b> loops\n"
            "0 of 5 hold",
        )

    def test_equivalences(self):
        self.check("R == S: holds", "R ~~ T: holds", "2 of 2 hold")
        self.check("N == O: fails by a formula of depth 2", "0 of 1 hold")
        self.check("R == P: fails by a formula of depth 1", "0 of 1 hold")
        depth = sheet_depth(answer(SCRIPT, claim_of("N ~~ O"))[1])
        self.check(f"N ~~ O: fails by a formula of depth {depth}", "0 of 1 hold")

    def test_claims_about_one_process(self):
        self.check("R never stuck: holds", "P never loops: holds", "P determinate: holds", "3 of 3 hold")
        self.check("P never stuck: fails after <b>", "E never stuck: fails after <>", "0 of 2 hold")
        self.check("L never loops: fails after <a>", "M never loops: holds", "1 of 2 hold")
        self.check("L determinate: fails after <a> loops", "0 of 1 hold")
        self.check("Q determinate: fails after <> both does and refuses a", "0 of 1 hold")
        self.check("N determinate: fails after <a> both does and refuses b", "0 of 1 hold")

    def test_many_claims(self):
        claims = parse_claims("R == S\nR == P") * 30
        text = report(SCRIPT, claims)
        self.assertEqual(text, "R == S: holds\nR == P: fails by a formula of depth 1\n" * 30 + "30 of 60 hold")
        self.assertEqual(format_claims(claims).count("\n"), 59)


class ShownTest(unittest.TestCase):
    def check(self, expected, text, reply):
        self.assertIs(is_shown(SCRIPT, claim_of(text), reply), expected, (text, reply))

    def test_wrong_words(self):
        for texts, words in (
            (("P <= Q in traces", "P never stuck", "P never loops", "P determinate"), ("same", "different", "", "Yes", "maybe", "holds")),
            (("P == Q", "P ~~ Q"), ("yes", "no", "", "Same", "maybe", "equal")),
        ):
            for text in texts:
                for word in words:
                    for evidence in ((), [], ("a",), ("trace", ())):
                        with self.assertRaises(errors.BadAnswer):
                            is_shown(SCRIPT, claim_of(text), (word, evidence))

    def test_certificates(self):
        word, certificate = answer(SCRIPT, claim_of("P <= Q in traces"))
        self.assertEqual(word, "yes")
        self.check(True, "P <= Q in traces", ("yes", certificate))
        # A greater one is a certificate, too.
        first, second = system_of("P"), system_of("Q")
        found = False
        for state in range(second.count):
            greater = sorted(set(certificate) | {(state, tuple(range(first.count)))})
            expected = is_certificate(first, second, "traces", greater)
            found = found or (expected and greater != certificate)
            self.check(expected, "P <= Q in traces", ("yes", greater))
        self.assertTrue(found)
        for at in range(len(certificate)):
            self.check(False, "P <= Q in traces", ("yes", certificate[:at] + certificate[at + 1:]))
        self.check(False, "P <= Q in traces", ("yes", certificate[::-1]))
        self.check(False, "P <= Q in traces", ("yes", certificate + [(99, (0,))]))
        self.check(False, "P <= Q in traces", ("yes", []))
        self.check(False, "P <= Q in failures", ("yes", certificate))
        copy = list(certificate)
        is_shown(SCRIPT, claim_of("P <= Q in traces"), ("yes", certificate))
        self.assertEqual(certificate, copy)

    def test_differences(self):
        self.check(True, "P <= Q in failures", ("no", ("failure", (), ("a",))))
        # Other differences, also longer ones.
        self.check(True, "P <= Q in failures", ("no", ("failure", (), ("b",))))
        self.check(True, "P <= Q in failures", ("no", ("failure", ("a", "a"), ("b",))))
        self.check(True, "R <= P in traces", ("no", ("trace", ("a", "a", "b"))))
        self.check(True, "R <= L in divergences", ("no", ("divergence", ("a",))))
        # No differences.
        self.check(False, "P <= Q in failures", ("no", ("failure", (), ("a", "b"))))
        self.check(False, "P <= Q in failures", ("no", ("failure", (), ())))
        self.check(False, "P <= Q in traces", ("no", ("failure", (), ("a",))))
        self.check(False, "R <= P in traces", ("no", ("trace", ("a", "a"))))
        self.check(False, "R <= P in traces", ("no", ("trace", ("c",))))
        self.check(False, "R <= L in failures", ("no", ("divergence", ("a",))))
        self.check(False, "R <= L in divergences", ("no", ("divergence", ())))
        self.check(False, "P <= Q in failures", ("no", ("failure", (), ("a", "a"))))

    def test_traces_with_tau_and_other_words(self):
        self.assertTrue(is_difference(system_of("R"), system_of("T"), "traces", ("trace", ("a", "tau"))))
        for trace in (("a", "tau"), ("tau",), ("a", "Tau"), ("a", ""), ("a", "a b"), ("stop",), ("a", "b" * 13)):
            self.check(False, "R <= T in traces", ("no", ("trace", trace)))
            self.check(False, "R <= T in divergences", ("no", ("divergence", trace)))
            self.check(False, "R <= T in failures", ("no", ("failure", trace, ())))
            self.check(False, "T never stuck", ("no", trace))
            self.check(False, "T never loops", ("no", trace))
            self.check(False, "T determinate", ("no", ("divergence", trace)))
            self.check(False, "T determinate", ("no", ("both", trace, "a")))
        for offers in (("tau",), ("a", "tau"), ("A",), ("true",)):
            self.check(False, "R <= E in failures", ("no", ("failure", (), offers)))
        # "tau" is an edge of the system, and the state behind it offers less.
        script = parse_script("P = (a -> stop | b -> stop)\nL = M / {a}\nM = a -> M")
        for claim, reply in (
            ("P never stuck", ("no", ("tau", "a"))),
            ("L never loops", ("no", ("tau",))),
            ("P determinate", ("no", ("both", (), "tau"))),
            ("P determinate", ("no", ("both", ("tau",), "a"))),
            ("L determinate", ("no", ("divergence", ("tau",)))),
            ("L determinate", ("no", ("divergence", ("tau", "tau")))),
        ):
            self.assertIs(is_shown(script, claim_of(claim), reply), False, reply)

    def test_relations(self):
        self.check(True, "R == S", ("same", [(0, 0), (0, 1)]))
        self.check(True, "E == E", ("same", [(0, 0)]))
        self.check(True, "P == P", ("same", [(0, 0), (1, 1)]))
        self.check(True, "R ~~ T", answer(SCRIPT, claim_of("R ~~ T")))
        for relation in ([], [(0, 0)], [(0, 1)], [(0, 1), (0, 0)], [(0, 0), (1, 0)], [(0, 0), (0, 1), (0, 2)], [(-1, 0), (0, 0), (0, 1)]):
            self.check(False, "R == S", ("same", relation))
            self.check(False, "R ~~ S", ("same", relation))
        # Weak relations are no strong ones.
        self.check(False, "R == T", answer(SCRIPT, claim_of("R ~~ T")))
        self.check(False, "P == Q", ("same", [(0, 0), (1, 1)]))

    def test_greater_relations(self):
        # Two states that are equivalent may be in the relation or not.
        greatest = [(0, 0), (0, 1), (1, 0), (1, 1)]
        self.assertEqual(answer(SCRIPT, claim_of("S == S")), ("same", greatest))
        for found in (greatest, [(0, 0), (1, 1)]):
            self.check(True, "S == S", ("same", found))
            self.check(True, "S ~~ S", ("same", found))
        self.check(False, "S == S", ("same", [(0, 0), (1, 0), (1, 1)]))

    def test_sheets(self):
        strong = (("true",), ("can", "b", 0), ("not", 1), ("can", "a", 2))
        self.check(True, "N == O", ("different", strong))
        # It need not be a shortest one, nor one with the least depth.
        longer = strong + (("can", "c", 0), ("or", 3, 3), ("must", "d", 0), ("and", 5, 6))
        self.check(True, "N == O", ("different", longer))
        self.check(True, "N == O", ("different", (("true",), ("can", "tau", 0)) + shifted(strong)))
        self.check(False, "N == O", ("different", strong + (("not", 3),)))
        self.check(False, "O == N", ("different", strong))
        self.check(True, "O == N", ("different", strong + (("not", 3),)))
        self.check(False, "N == O", ("different", (("true",),)))
        self.check(False, "N == N", ("different", strong))
        self.check(False, "R == S", ("different", strong))

    def test_words_of_sheets(self):
        soft = (("true",), ("might", "b", 0), ("not", 1), ("might", "a", 2))
        hard = (("true",), ("can", "b", 0), ("not", 1), ("can", "a", 2))
        self.check(True, "N ~~ O", ("different", soft))
        self.check(False, "N == O", ("different", soft))
        self.check(True, "N == O", ("different", hard))
        self.check(False, "N ~~ O", ("different", hard))
        # Also a row that is not needed counts.
        for extra in (("loops",), ("might", "a", 0)):
            self.check(False, "N == O", ("different", (("true",), extra) + shifted(hard)))
            self.check(True, "N ~~ O", ("different", (("true",), extra) + shifted(soft)))
        for extra in (("can", "a", 0), ("must", "a", 0)):
            self.check(True, "N == O", ("different", (("true",), extra) + shifted(hard)))
            self.check(False, "N ~~ O", ("different", (("true",), extra) + shifted(soft)))
        self.check(True, "L ~~ K", ("different", (("loops",), ("might", "a", 0))))
        self.check(False, "K ~~ L", ("different", (("loops",), ("might", "a", 0))))

    def test_tuples_that_are_no_sheets(self):
        for sheet in (
            (), (("not", 0),), (("can", "a", 0),), (("true",), ("can", "a", 1)), (("true",), ("can", "a", -1)),
            (("true",), ("can", "A", 0)), (("true",), ("can", "", 0)), (("true",), ("and", 0, 7)),
            (("true",), ("can", "b", 0), ("not", 1), ("can", "a", 2), ("and", 3, 4)),
        ):
            self.check(False, "N == O", ("different", sheet))
            self.check(False, "N ~~ O", ("different", sheet))

    def test_traces_that_show_it_otherwise(self):
        self.check(True, "P never stuck", ("no", ("a", "a", "b")))
        self.check(False, "P never stuck", ("no", ("a", "a")))
        self.check(False, "P never stuck", ("no", ("b", "b")))
        self.check(False, "K never stuck", ("no", ("a", "tick")))
        self.check(True, "N never stuck", ("no", ("a", "c")))
        self.check(True, "L never loops", ("no", ("a",)))
        self.check(False, "L never loops", ("no", ()))
        self.check(False, "L never loops", ("no", ("a", "a")))

    def test_evidence_against_being_determinate(self):
        for action, expected in (("a", True), ("b", True), ("c", False), ("tick", False)):
            self.check(expected, "Q determinate", ("no", ("both", (), action)))
            self.check(expected, "Q determinate", ("no", ("both", ("a", "a"), action)))
        self.check(False, "Q determinate", ("no", ("both", ("b",), "a")))
        self.check(False, "Q determinate", ("no", ("divergence", ())))
        self.check(False, "P determinate", ("no", ("both", (), "a")))
        self.check(False, "N determinate", ("no", ("both", (), "a")))
        self.check(True, "N determinate", ("no", ("both", ("a",), "c")))
        self.check(True, "L determinate", ("no", ("divergence", ("a",))))
        self.check(False, "L determinate", ("no", ("both", ("a",), "a")))

    def test_opposite_words(self):
        for text in ("P never stuck", "L never loops", "Q determinate"):
            self.check(False, text, ("yes", ()))
        for text in ("R never stuck", "P never loops", "P determinate", "K never stuck"):
            self.check(True, text, ("yes", ()))
            self.check(False, text, ("no", ("divergence", ()) if "det" in text else ()))
        self.check(False, "P <= Q in failures", ("yes", []))
        self.check(False, "P == Q", ("same", [(0, 0)]))
        self.check(False, "R == S", ("different", (("true",),)))

    def test_random_replies(self):
        source = random.Random(141)
        many = [0, 0]
        while min(many) < 150:
            pairs = [(name, naive.random_process(source, ("P", "Q"), 4)) for name in ("P", "Q")]
            if naive.first_fault(pairs) is not None or None in [naive.explored(dict(pairs), ("name", name), 20) for name in "PQ"]:
                continue
            script = Script(pairs)
            system = system_of("P", script)
            trace = tuple(source.choice(("a", "b", "c", "tick")) for _ in range(source.randint(0, 3)))
            action = source.choice(("a", "b", "tick"))
            ends = naive_systems.states_after(system, trace)
            loops = naive_systems.any_diverges(system, ends)
            for text, shown, expected in (
                ("P never stuck", trace, equal.is_stuck_after(system, trace)),
                ("P never loops", trace, loops),
                ("P determinate", ("divergence", trace), loops),
                ("P determinate", ("both", trace, action), action in equal.clashes(system, trace)),
            ):
                many[expected] += 1
                self.assertIs(is_shown(script, claim_of(text), ("no", shown)), expected)


def shifted(sheet):
    """The rows of a sheet behind two others."""
    return tuple(tuple(item + 2 if isinstance(item, int) else item for item in row) for row in sheet)


if __name__ == "__main__":
    unittest.main()
