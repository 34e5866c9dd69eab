"""The texts of processes and scripts (points 5, 6 and 7)."""

import itertools
import random
import unittest

import naive
from parley.errors import BadText, Growing, NameTwice, TooLarge, UnknownName
from parley.processes import height
from parley.scripts import Script
from parley.texts import format_script, parse_process, parse_script, show_process

P, Q, R = ("name", "P"), ("name", "Q"), ("name", "R")
STOP = ("stop",)


def over(kind, left, right=Q):
    """A process of a kind with these parts, as far as it has parts."""
    labels = {"prefix": ("a",), "parallel": (("a", "b"),), "hide": (("a",),), "rename": ((("a", "b"),),), "name": ("R",)}
    places = naive.PART_PLACES[kind]
    return (kind,) + labels.get(kind, ()) + (left, right)[:len(places)]


class ShowTest(unittest.TestCase):
    def check(self, process, text):
        self.assertEqual(show_process(process), text)
        self.assertEqual(parse_process(text), process)

    def test_each_kind(self):
        self.check(STOP, "stop")
        self.check(("skip",), "skip")
        self.check(P, "P")
        self.check(("prefix", "a", P), "a -> P")
        self.check(("external", P, Q), "P + Q")
        self.check(("internal", P, Q), "P | Q")
        self.check(("sequence", P, Q), "P ; Q")
        self.check(("parallel", (), P, Q), "P <> Q")
        self.check(("parallel", ("a",), P, Q), "P <a> Q")
        self.check(("parallel", ("a", "b", "c"), P, Q), "P <a, b, c> Q")
        self.check(("hide", (), P), "P / {}")
        self.check(("hide", ("a", "b"), P), "P / {a, b}")
        self.check(("rename", (("a", "c"),), P), "P [a=c]")
        self.check(("rename", (("a", "c"), ("b", "c")), P), "P [a=c, b=c]")

    def test_operators_group_to_the_left(self):
        for kind, sign in (("external", "+"), ("internal", "|"), ("sequence", ";")):
            self.check((kind, (kind, P, Q), R), f"P {sign} Q {sign} R")
            self.check((kind, P, (kind, Q, R)), f"P {sign} (Q {sign} R)")
        self.check(("parallel", ("b",), ("parallel", ("a",), P, Q), R), "P <a> Q <b> R")
        self.check(("parallel", ("b",), P, ("parallel", ("a",), Q, R)), "P <b> (Q <a> R)")

    def test_levels(self):
        self.check(("external", ("prefix", "a", P), ("sequence", Q, R)), "a -> P + Q ; R")
        self.check(("sequence", ("external", P, Q), R), "(P + Q) ; R")
        self.check(("sequence", P, ("external", Q, R)), "P ; (Q + R)")
        self.check(("prefix", "a", ("prefix", "b", P)), "a -> b -> P")
        self.check(("prefix", "a", ("sequence", P, Q)), "a -> (P ; Q)")
        self.check(("sequence", ("prefix", "a", P), Q), "a -> P ; Q")
        self.check(("prefix", "a", ("hide", ("b",), P)), "a -> P / {b}")
        self.check(("hide", ("b",), ("prefix", "a", P)), "(a -> P) / {b}")
        self.check(("hide", ("b",), ("rename", (("a", "b"),), P)), "P [a=b] / {b}")
        self.check(("rename", (("a", "b"),), ("hide", ("b",), P)), "P / {b} [a=b]")
        self.check(("internal", ("parallel", (), P, Q), R), "(P <> Q) | R")
        self.check(("parallel", (), ("internal", P, Q), R), "P | Q <> R")

    def test_each_kind_inside_of_each_other_on_both_sides(self):
        for outer, kind in itertools.product(naive.PART_PLACES, repeat=2):
            inner = over(kind, P)
            for process in (over(outer, inner, R), over(outer, P, inner), over(outer, inner, inner)):
                self.check(process, naive.show(process))

    def test_random_processes(self):
        source = random.Random(2)
        for _ in range(500):
            process = naive.random_process(source, ("P", "Q", "Stop"), 7)
            self.check(process, naive.show(process))

    def test_brackets_are_the_fewest(self):
        source = random.Random(3)
        for _ in range(60):
            text = show_process(naive.random_process(source, ("P",), 5))
            for opened, closed in itertools.product(places(text, "("), places(text, ")")):
                fewer = text[:opened] + text[opened + 1:closed] + text[closed + 1:]
                if opened < closed:
                    self.assertNotEqual(read_or_none(fewer), parse_process(text), (text, fewer))

    def test_long_chains_are_shown(self):
        process = P
        for _ in range(5000):
            process = ("external", process, Q)
        self.assertEqual(show_process(process), " + ".join(["P"] + ["Q"] * 5000))
        process = P
        for _ in range(5000):
            process = ("prefix", "a", process)
        self.assertEqual(show_process(process), "a -> " * 5000 + "P")


def places(text, sign):
    return [at for at in range(len(text)) if text[at] == sign]


def read_or_none(text):
    try:
        return parse_process(text)
    except BadText:
        return None


class ParseProcessTest(unittest.TestCase):
    def same(self, text, plain):
        self.assertEqual(show_process(parse_process(text)), plain)

    def wrong(self, text):
        with self.assertRaises(BadText) as caught:
            parse_process(text)
        self.assertEqual(caught.exception.line, 1)

    def test_more_brackets_and_spaces_than_needed(self):
        self.same("((P))", "P")
        self.same("  ( ( a->(b  ->  (stop)) ) )+(P)  ", "a -> b -> stop + P")
        self.same("(P / { b , a }) [ a = b ]", "P / {a, b} [a=b]")
        self.same("P < > Q", "P <> Q")
        self.same("P / { }", "P / {}")

    def test_no_spaces(self):
        self.same("a->stop+b->P<c>skip", "a -> stop + b -> P <c> skip")
        self.same("P<b,a>Q|R;P/{c,a}[a=c,b=c]", "P <a, b> Q | R ; P / {a, c} [a=c, b=c]")
        self.same("P[a=b]/{a}", "P [a=b] / {a}")

    def test_any_order_and_twice(self):
        self.same("P <c, a, b, a, c> Q", "P <a, b, c> Q")
        self.same("P / {b, b, b}", "P / {b}")
        self.same("P [b=c, a=c, b=c, a=c]", "P [a=c, b=c]")
        self.same("P [a=a]", "P [a=a]")
        self.same("P [a=b, b=a]", "P [a=b, b=a]")

    def test_an_event_on_the_left_of_two_different_pairs(self):
        self.wrong("P [a=b, a=c]")
        self.wrong("P [a=b, c=d, a=a]")
        self.wrong("a -> (P + Q [b=c, b=b]) ; R")

    def test_an_event_on_the_left_in_two_lists_is_fine(self):
        self.same("P [a=b] [a=c]", "P [a=b] [a=c]")

    def test_words(self):
        self.same("abcdefghijkl -> Abcdefghijkl", "abcdefghijkl -> Abcdefghijkl")
        self.same("stop1 -> Stop", "stop1 -> Stop")
        for word in ("stop", "skip", "tau", "tick", "true", "loops", "abcdefghijklm", "P", "1a", "a_b", "7"):
            self.wrong(word + " -> P")
            self.wrong("P / {" + word + "}")
            self.wrong("P <a, " + word + "> Q")
            self.wrong("P [a=" + word + "]")
            self.wrong("P [" + word + "=a]")
        for word in ("a", "tau", "Abcdefghijklm", "1", "2P", "P_Q", "P Q", "stop stop", "stopP skip", "\u00c4"):
            self.wrong(word)

    def test_not_of_the_form(self):
        texts = (
            "", " ", "     ", "()", "(", ")", "(P", "P)", "(P))", "P +", "+ P", "P + + Q", "P | ", "| P", "P ;", "; P",
            "P <> ", "<> P", "P <a Q", "P <a,> Q", "P <,a> Q", "P <a b> Q", "P < <> Q", "a ->", "-> P", "a -> -> P",
            "a - > P", "a > P", "a P", "a", "a -> b", "P -> Q", "P /", "P / {", "P / {a", "P / {a,}", "P / {,}", "P / a",
            "P {a}", "/ {a}", "P []", "P [a]", "P [a=]", "P [=b]", "P [a=b", "P [a=b,]", "P [a=b c=d]", "P [a b]",
            "P [a==b]", "[a=b]", "P = Q", "P, Q", "P & Q", "P ! Q", "P - Q", "P . Q", "P [a->b]", "(a ->) P", "P Q",
            "(P + ) Q", "stop skip", "P (Q)", "(P) (Q)", "P \\ {a}", "P >< Q", "P <a>> Q", "P / {} {}", "a -> P /",
        )
        for text in texts:
            with self.subTest(text=text):
                self.wrong(text)

    def test_twenty_and_twenty_one_open_brackets(self):
        self.assertEqual(parse_process("(" * 20 + "P" + ")" * 20), P)
        self.wrong("(" * 21 + "P" + ")" * 21)
        self.assertEqual(parse_process("P + " + "(" * 20 + "P" + ")" * 20 + " ; (Q)")[0], "external")
        self.wrong("P + " + "(" * 19 + "P ; (Q + (P))" + ")" * 19)
        self.assertEqual(height(parse_process(" + ".join(["(P)"] * 20))), 20)
        self.wrong("(" * 100000 + "P" + ")" * 100000)

    def test_heights_of_twenty_and_twenty_one(self):
        for text in ("a -> " * 19 + "P", "P" + " / {a}" * 19, "P" + " [a=b]" * 19, "a -> " * 9 + "P" + " / {}" * 10):
            self.assertEqual(height(parse_process(text)), 20)
        for text in ("a -> " * 20 + "P", "P" + " / {a}" * 20, "P" + " [a=b]" * 20, "a -> " * 9 + "P" + " / {}" * 11):
            self.wrong(text)
        for sign in (" + ", " | ", " ; ", " <> ", " <a> "):
            self.assertEqual(height(parse_process(sign.join(["P"] * 20))), 20)
            self.wrong(sign.join(["P"] * 21))

    def test_operands_chained_by_the_thousand(self):
        for sign in (" + ", " | ", " ; ", " <> ", " <a, b> "):
            self.wrong(sign.join(["P"] * 5000))
        for text in ("a -> " * 5000 + "P", "P" + " / {a}" * 5000, "P" + "[a=b]" * 5000):
            self.wrong(text)

    def test_long_lists_of_events(self):
        words = ["e" + str(number) for number in range(5000)]
        process = parse_process("P <" + ", ".join(words) + "> Q")
        self.assertEqual(process[1], tuple(sorted(words)))


class ScriptTextTest(unittest.TestCase):
    def wrong(self, text, line):
        with self.assertRaises(BadText) as caught:
            parse_script(text)
        self.assertEqual(caught.exception.line, line)

    def test_script(self):
        script = parse_script("P = a -> Q\nQ = b -> P")
        self.assertIsInstance(script, Script)
        self.assertEqual(script.definitions, (("P", ("prefix", "a", Q)), ("Q", ("prefix", "b", P))))
        self.assertEqual(format_script(script), "P = a -> Q\nQ = b -> P")

    def test_no_definitions(self):
        for text in ("", " ", "\n", "  \n\n   \n"):
            self.assertEqual(parse_script(text).definitions, ())
        self.assertEqual(format_script(Script([])), "")

    def test_lines_of_spaces_and_a_newline_at_the_end(self):
        script = parse_script("\n   \n  P=stop  \n \nQ   =   P\n")
        self.assertEqual(format_script(script), "P = stop\nQ = P")

    def test_first_wrong_line(self):
        self.wrong("P = stop\nQ", 2)
        self.wrong("\n \nP = stop +\nQ = (", 3)
        self.wrong("stop", 1)
        self.wrong("P = stop\n\n\n=\n\nP = P = P", 4)

    def test_wrong_lines(self):
        lines = (
            "P", "P =", "= stop", "p = stop", "P == stop", "P stop", "stop = P", "P Q = stop", "(P) = stop", "1P = stop",
            "Abcdefghijklm = stop", "P = stop Q = stop", "P = Q = stop", "P = a", "P = stop,", "= ", "P = X [a=b, a=c]",
            "P = " + "(" * 21 + "stop" + ")" * 21, "P = " + "a -> " * 20 + "stop", "P = " + "+".join(["stop"] * 3000),
        )
        for line in lines:
            with self.subTest(line=line):
                self.wrong("\n" + line + "\n", 2)

    def test_a_definition_stands_on_one_line(self):
        self.wrong("P =\nstop", 1)
        self.wrong("P = stop\n+ stop", 2)

    def test_wrong_lines_come_before_what_a_script_raises(self):
        self.wrong("P = P\nP = Q\nX", 3)
        self.wrong("\n".join(["P = stop"] * 61 + ["P"]), 62)
        with self.assertRaises(NameTwice):
            parse_script("P = P\nP = Q")
        with self.assertRaises(UnknownName):
            parse_script("P = Q")
        with self.assertRaises(Growing):
            parse_script("P = a -> P <> b -> stop")
        with self.assertRaises(TooLarge) as caught:
            parse_script("\n".join(["P = stop"] * 61))
        self.assertEqual(caught.exception.limit, 60)

    def test_random_scripts_are_read_back(self):
        source = random.Random(4)
        many = 0
        while many < 100:
            definitions = [(name, naive.random_process(source, ("P", "Q", "R"), 5)) for name in ("Q", "R", "P")]
            if naive.first_fault(definitions) is None:
                script = parse_script(format_script(Script(definitions)))
                self.assertEqual(script.definitions, tuple(definitions))
                many += 1


if __name__ == "__main__":
    unittest.main()
