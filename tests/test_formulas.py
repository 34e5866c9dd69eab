"""Formulas, their depths and heights, and their texts (points 30 to 32)."""

import random
import unittest

import naive_systems as naive
from parley import errors
from parley.formulas import depth, formula_height, parse_formula, show_formula

TRUE = ("true",)
LOOPS = ("loops",)
A = ("can", "a", TRUE)
B = ("must", "b", TRUE)


def tower(kinds, many, formula=TRUE):
    """A formula in which kinds of formulas with one part stand upon each other, again and again."""
    for at in range(many):
        kind = kinds[at % len(kinds)]
        formula = ("not", formula) if kind == "not" else (kind, "a", formula)
    return formula


class MeasuresTest(unittest.TestCase):
    def test_depth(self):
        for formula, expected in (
            (TRUE, 0),
            (LOOPS, 1),
            (("not", TRUE), 0),
            (("not", LOOPS), 1),
            (("and", A, TRUE), 1),
            (("and", TRUE, ("can", "b", A)), 2),
            (("or", A, LOOPS), 1),
            (("or", ("not", ("must", "a", B)), TRUE), 2),
            (("can", "tau", TRUE), 1),
            (("must", "tick", A), 2),
            (("might", "tau", ("might", "a", LOOPS)), 3),
        ):
            self.assertEqual(depth(formula), expected, formula)

    def test_height(self):
        for formula, expected in (
            (TRUE, 1),
            (LOOPS, 1),
            (("not", LOOPS), 2),
            (("and", TRUE, A), 3),
            (("and", A, TRUE), 3),
            (("or", TRUE, LOOPS), 2),
            (("or", ("not", B), A), 4),
            (("can", "a", A), 3),
            (("must", "a", LOOPS), 2),
            (("might", "tau", A), 3),
        ):
            self.assertEqual(formula_height(formula), expected, formula)

    def test_great_heights(self):
        self.assertEqual(formula_height(tower(["not", "can"], 10000)), 10001)
        self.assertEqual(depth(tower(["not", "can"], 10000)), 5000)
        self.assertEqual(depth(tower(["must", "might"], 10000)), 10000)
        for kind in ("and", "or"):
            left, right = TRUE, LOOPS
            for _ in range(5000):
                left, right = (kind, left, A), (kind, A, right)
            self.assertEqual((formula_height(left), depth(left)), (5002, 1))
            self.assertEqual((formula_height(right), depth(right)), (5002, 1))

    def test_random_formulas(self):
        source = random.Random(30)
        for _ in range(300):
            formula = naive.random_formula(source, 6)
            self.assertEqual(depth(formula), naive.depth(formula))
            self.assertEqual(formula_height(formula), naive.height(formula))


class ShowTest(unittest.TestCase):
    def check(self, text, formula):
        self.assertEqual(show_formula(formula), text)
        self.assertEqual(parse_formula(text), formula)

    def test_signs(self):
        self.check("true", TRUE)
        self.check("loops", LOOPS)
        self.check("!true", ("not", TRUE))
        self.check("<a> true", A)
        self.check("[b] true", B)
        self.check("<<tau>> loops", ("might", "tau", LOOPS))
        self.check("<tick> true", ("can", "tick", TRUE))
        self.check("true & loops", ("and", TRUE, LOOPS))
        self.check("true | loops", ("or", TRUE, LOOPS))

    def test_signs_before_signs(self):
        self.check("!!true", ("not", ("not", TRUE)))
        self.check("![b] true", ("not", B))
        self.check("<a> !true", ("can", "a", ("not", TRUE)))
        self.check("<a> <<b>> [c] <d> true", ("can", "a", ("might", "b", ("must", "c", ("can", "d", TRUE)))))
        self.check("!<<a>> !loops", ("not", ("might", "a", ("not", LOOPS))))

    def test_levels(self):
        self.check("!true & loops | <a> true & true", ("or", ("and", ("not", TRUE), LOOPS), ("and", A, TRUE)))
        self.check("(true | loops) & true", ("and", ("or", TRUE, LOOPS), TRUE))
        self.check("true & (true | loops)", ("and", TRUE, ("or", TRUE, LOOPS)))
        self.check("true | loops & true", ("or", TRUE, ("and", LOOPS, TRUE)))
        self.check("!(true & loops)", ("not", ("and", TRUE, LOOPS)))
        self.check("!(true | loops)", ("not", ("or", TRUE, LOOPS)))
        self.check("<a> (true & loops)", ("can", "a", ("and", TRUE, LOOPS)))
        self.check("[a] (true | loops)", ("must", "a", ("or", TRUE, LOOPS)))
        self.check("<<a>> (true & loops) & true", ("and", ("might", "a", ("and", TRUE, LOOPS)), TRUE))
        self.check("<a> true & <a> true", ("and", A, A))

    def test_grouping_to_the_left(self):
        for kind, sign in (("and", "&"), ("or", "|")):
            self.check(f"true {sign} loops {sign} <a> true", (kind, (kind, TRUE, LOOPS), A))
            self.check(f"true {sign} (loops {sign} <a> true)", (kind, TRUE, (kind, LOOPS, A)))
            self.check(f"true {sign} loops {sign} (true {sign} true)", (kind, (kind, TRUE, LOOPS), (kind, TRUE, TRUE)))

    def test_random_formulas(self):
        source = random.Random(32)
        for _ in range(500):
            formula = naive.random_formula(source, 7, ("a", "b1", "tau", "tick", "passwords"))
            text = show_formula(formula)
            self.assertEqual(parse_formula(text), formula)
            self.assertEqual(parse_formula(text.replace(" ", "")), formula)
            self.assertEqual(parse_formula("  " + text.replace(" ", "   ").replace("(", " ( ").replace(")", " ) ")), formula)
            # Without any of its pairs of brackets the text would be that of another formula, or of none.
            for opened in [at for at, sign in enumerate(text) if sign == "("]:
                closed = next(
                    at for at in range(opened, len(text)) if text[opened:at + 1].count("(") == text[opened:at + 1].count(")")
                )
                shorter = text[:opened] + text[opened + 1:closed] + text[closed + 1:]
                self.assertNotEqual(parse_formula(shorter), formula)

    def test_great_height(self):
        formula = tower(["not", "can", "might"], 49)
        self.assertEqual(parse_formula(show_formula(formula)), formula)


class ParseTest(unittest.TestCase):
    def bad(self, *texts):
        for text in texts:
            with self.subTest(text=text[:60]), self.assertRaises(errors.BadFormula):
                parse_formula(text)

    def test_spaces(self):
        for text in ("<a>true&![b]true|loops", " < a > true & ! [ b ] true|loops ", "(((<a>(true))&(!([b](true)))))|loops"):
            self.assertEqual(parse_formula(text), ("or", ("and", A, ("not", B)), LOOPS))

    def test_longest_sign(self):
        self.assertEqual(parse_formula("<<a>>true"), ("might", "a", TRUE))
        self.assertEqual(parse_formula("<< a >> true"), ("might", "a", TRUE))
        self.assertEqual(parse_formula("<a><<b>><c>true"), ("can", "a", ("might", "b", ("can", "c", TRUE))))
        self.bad("< <a> > true", "<<a> > true", "< <a>> true", "<a>> true", "<<a> true", "<<<a>>> true", "<<<a> true", "<a>>> true")

    def test_empty_texts(self):
        self.bad("", " ", "      ")

    def test_signs_and_words_too_much_or_missing(self):
        self.bad(
            "true true", "true loops", "true &", "& true", "true | | true", "true & | true", "|", "&", "!", "!!", "true !",
            "true !true", "(true", "true)", "()", "(", ")", "((true)", "(true))", "true ()", "(true) true", "true (true)",
            "<a>", "[a]", "<<a>>", "<a true", "<a] true", "[a> true", "[a true", "a> true", "a] true", "<> true", "[] true",
            "<<>> true", "<a b> true", "<a,b> true", "[[a]] true", "<a> & true", "!& true", "(true &) true", "true <a>",
            "<(a)> true", "<a> (true", "( & true)", "true && true", "true || true", "<!a> true", "a", "true;", "true -> true",
            "#", "true.", "true = true", "_", "\"true\"",
        )

    def test_words_that_are_no_actions(self):
        for word in ("stop", "skip", "true", "loops", "A", "1", "aB", "abcdefghijklm", "1a", "P", "a-b", "a_b"):
            self.bad(f"<{word}> true", f"[{word}] true", f"<<{word}>> true")
        for word in ("tau", "tick", "a", "z9", "abcdefghijkl", "pass", "can", "not"):
            self.assertEqual(parse_formula(f"<{word}> true"), ("can", word, TRUE))

    def test_words_that_are_no_formulas(self):
        self.bad("tau", "tick", "stop", "skip", "false", "True", "LOOPS", "true1", "truetrue", "loop", "1", "trueloops")

    def test_many_brackets(self):
        self.assertEqual(parse_formula("(" * 50 + "true" + ")" * 50), TRUE)
        self.bad("(" * 51 + "true" + ")" * 51)
        # Only those count that are not closed.
        text = "((((true))))" + " & ((((true))))" * 20
        self.assertEqual(formula_height(parse_formula(text)), 21)
        inner = "(" * 49 + "true" + ")" * 49
        self.assertEqual(parse_formula(f"({inner} & {inner})"), ("and", TRUE, TRUE))
        self.bad(f"(({inner}) & ({inner}))", f"true & ({inner} & ({inner}))")
        self.bad("(" * 100000, "(" * 100000 + "true" + ")" * 100000, ")" * 100000)

    def test_heights(self):
        self.assertEqual(formula_height(parse_formula("!" * 49 + "true")), 50)
        self.bad("!" * 50 + "true", "!" * 50 + "loops", "<a>" * 50 + "true", "[a]" * 50 + "true", "<<a>>" * 50 + "true")
        for text in ("<a>", "[tau]", "<<tick>>"):
            self.assertEqual(formula_height(parse_formula(text * 49 + "true")), 50)
        for sign in "&|":
            self.assertEqual(formula_height(parse_formula("true" + f" {sign} loops" * 49)), 50)
            self.bad("true" + f" {sign} loops" * 50)
        # Brackets do not count for the height.
        self.assertEqual(formula_height(parse_formula("(" + "!(" * 49 + "true" + ")" * 50)), 50)
        self.bad("!(" * 50 + "true" + ")" * 50)

    def test_chains_by_the_thousand(self):
        self.bad("true" + " & true" * 30000, "true" + "|true" * 30000, "!" * 30000 + "true", "<a>" * 30000 + "true")
        self.bad("true" + " & true | loops" * 20000, "!" * 30000, "<a> " * 30000, "true & " * 30000)


if __name__ == "__main__":
    unittest.main()
