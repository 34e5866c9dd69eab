"""When a script is sound (point 8), and the class Script."""

import random
import unittest

import naive
from parley import errors
from parley.scripts import Script
from parley.texts import parse_process

STOP = ("stop",)


def chain(many, part=STOP):
    """A process whose height is greater by `many` than that of its part."""
    for _ in range(many):
        part = ("prefix", "a", part)
    return part


def wide(many):
    """A process with a width."""
    if many == 1:
        return STOP
    return ("internal", wide(many // 2), wide(many - many // 2))


def definitions_of(*lines):
    """The pairs that lines such as "P = stop" write."""
    pairs = []
    for line in lines:
        name, _, text = line.partition(" = ")
        pairs.append((name, parse_process(text)))
    return pairs


class ScriptTest(unittest.TestCase):
    def due(self, error, field, *lines):
        self.raises(error, field, definitions_of(*lines))

    def raises(self, error, field, definitions):
        with self.assertRaises(errors.ParleyError) as caught:
            Script(definitions)
        self.assertIs(type(caught.exception), getattr(errors, error))
        if field is not None:
            name = "limit" if error == "TooLarge" else "name"
            self.assertEqual(getattr(caught.exception, name), field)

    def sound(self, *lines):
        pairs = definitions_of(*lines)
        self.assertEqual(Script(pairs).definitions, tuple(pairs))

    def test_fields_and_body(self):
        pairs = definitions_of("P = a -> Q", "Q = Q1 ; P", "Q1 = stop")
        script = Script(pairs)
        self.assertEqual(script.definitions, tuple(pairs))
        self.assertIsInstance(script.definitions, tuple)
        for name, process in pairs:
            self.assertEqual(script.body(name), process)
        self.assertIn("body", vars(Script))

    def test_body_of_an_unknown_name(self):
        script = Script(definitions_of("P = stop"))
        for name in ("Q", "PP", "p", ""):
            with self.assertRaises(errors.UnknownName) as caught:
                script.body(name)
            self.assertEqual(caught.exception.name, name)

    def test_the_list_is_copied_and_not_changed(self):
        pairs = definitions_of("P = stop")
        script = Script(pairs)
        self.assertEqual(pairs, definitions_of("P = stop"))
        pairs.append(("Q", STOP))
        self.assertEqual(len(script.definitions), 1)
        with self.assertRaises(errors.UnknownName):
            script.body("Q")

    def test_sixty_and_sixty_one_definitions(self):
        pairs = [("P" + str(number), STOP) for number in range(61)]
        self.assertEqual(len(Script(pairs[:60]).definitions), 60)
        self.raises("TooLarge", 60, pairs)

    def test_heights(self):
        self.assertEqual(len(Script([("P", chain(19))]).definitions), 1)
        self.raises("TooDeep", None, [("P", chain(20))])
        self.raises("TooDeep", None, [("P", STOP), ("Q", chain(5000))])

    def test_name_twice(self):
        self.due("NameTwice", "Q", "P = stop", "Q = stop", "Q = skip", "P = stop")
        self.due("NameTwice", "P", "P = stop", "P = stop")

    def test_unknown_name(self):
        self.due("UnknownName", "X", "P = stop", "Q = (Z + X) ; a -> Y", "R = A")
        self.due("UnknownName", "Q", "P = a -> Q")
        self.due("UnknownName", "Q10", "P = Q2 + Q10 + Q9")

    def test_unguarded(self):
        self.due("Unguarded", "P", "P = P")
        self.due("Unguarded", "P", "P = a -> stop + P")
        self.due("Unguarded", "Q", "P = a -> P", "R = Q", "Q = R1", "R1 = stop | Q")
        self.due("Unguarded", "P", "A = a -> P", "P = stop ; P")
        self.due("Unguarded", "P", "P = (P [a=b]) / {a}")
        self.due("Unguarded", "B", "A = B", "B = C", "C = B")
        self.sound("P = a -> P", "Q = P | R", "R = b -> Q")
        self.sound("P = a -> (P + P | P)")

    def test_growing(self):
        for text in ("(a -> P) <> stop", "stop <a> a -> P", "(a -> P) / {a}", "(a -> P) [a=b]", "(a -> P) ; stop"):
            self.due("Growing", "P", "P = " + text)
            self.due("Growing", "P", "P = b -> (" + text + ")")
        self.sound("P = stop ; a -> P")
        self.sound("P = (stop ; a -> P) | (stop + b -> P)")

    def test_growing_around(self):
        self.due("Growing", "Q", "P = a -> Q", "Q = a -> R", "R = (a -> Q) / {a}")
        self.due("Growing", "Q", "Q = a -> R + b -> T", "R = a -> Q", "T = (a -> T2) ; stop", "T2 = a -> Q")
        self.due("Growing", "Q", "Q = a -> R", "R = (a -> R) ; Q")
        self.sound("P = (a -> Q) / {a}", "Q = a -> Q", "R = P <> P <> Q")
        self.sound("A = a -> B", "B = b -> A + (C <> C)", "C = c -> C")

    def test_a_name_that_leads_into_a_growing_circle_does_not_grow(self):
        self.due("Growing", "C", "A = a -> B", "B = a -> A + a -> C", "C = (a -> C) / {}")

    def test_five_and_six_growing_references(self):
        lines = ["P0 = stop"] + [f"P{number} = a -> P{number - 1} / {{a}}" for number in range(1, 7)]
        self.sound(*lines[:6])
        self.due("TooDeep", None, *lines)

    def test_growing_references_with_others_between(self):
        kinds = ("P1 <> stop", "stop <> P2", "P3 ; stop", "P4 [a=b]", "P5 / {a}", "P6", "a -> P7 + b -> P5", "P8 <> stop")
        lines = [f"P{number} = {text}" for number, text in enumerate(kinds)]
        self.due("TooDeep", None, *lines, "P8 = stop")
        self.sound(*lines[1:], "P8 = P9", "P9 = stop ; P10", "P10 = stop")

    def test_growing_references_of_one_body_do_not_add_up(self):
        self.sound("P = ((((((Q <> Q) / {}) / {}) ; stop) [a=b]) <> stop) / {a}", "Q = stop")

    def test_width(self):
        self.assertEqual(len(Script([("P", wide(200))]).definitions), 1)
        self.raises("TooLarge", 200, [("P", wide(201))])
        self.raises("TooLarge", 200, [("P", STOP), ("Q", ("prefix", "a", wide(201)))])
        self.raises("TooLarge", 200, [("Q", ("prefix", "a", ("internal", ("prefix", "b", wide(201)), STOP)))])

    def test_width_of_each_kind(self):
        two = wide(2)
        for kind in ("external", "internal", "sequence"):
            self.assertEqual(len(Script([("P", (kind, wide(100), wide(100)))]).definitions), 1)
            self.raises("TooLarge", 200, [("P", (kind, wide(100), wide(101)))])
            self.raises("TooLarge", 200, [("P", (kind, wide(101), wide(100)))])
        self.assertEqual(len(Script([("P", ("parallel", (), wide(100), wide(100)))]).definitions), 1)
        self.raises("TooLarge", 200, [("P", ("parallel", (), wide(101), wide(100)))])
        for part in (("hide", (), two), ("rename", (("a", "b"),), two), ("name", "Q")):
            self.raises("TooLarge", 200, [("P", ("external", wide(199), part)), ("Q", two)])
            self.assertEqual(len(Script([("P", ("external", wide(198), part)), ("Q", two)]).definitions), 2)
        for part in (STOP, ("skip",), ("prefix", "a", wide(200))):
            self.assertEqual(len(Script([("P", ("external", wide(199), part))]).definitions), 1)
            self.raises("TooLarge", 200, [("P", ("external", wide(200), part))])

    def test_width_of_names(self):
        lines = ["P0 = stop | stop"] + [f"P{number} = P{number - 1} | P{number - 1}" for number in range(1, 59)]
        self.sound(*lines[:7])
        self.due("TooLarge", 200, *lines)
        self.due("TooLarge", 200, *reversed(lines))
        self.due("TooLarge", 200, *lines[:7], "Q = a -> (P6 | P6)")
        self.sound(*lines[:7], "P = a -> (P6 | P5 / {} ; P1 | Q)", "Q = P0 [a=b] | b -> P")
        self.due("TooLarge", 200, *lines[:7], "P = a -> (P6 | P5 / {} ; P1 | P0 | Q)", "Q = P0 [a=b] | b -> P")

    def test_rules_in_their_order(self):
        many = [("P", chain(20, ("name", "X")))] * 61
        self.raises("TooLarge", 60, many)
        self.raises("TooDeep", None, many[:60])
        twice = [("P", ("name", "X")), ("P", ("name", "P"))]
        self.raises("NameTwice", "P", twice)
        self.due("UnknownName", "X", "P = P", "Q = X")
        self.due("Unguarded", "Q", "P = (a -> P) / {a}", "Q = Q")
        six = [f"P{number} = P{number - 1} / {{a}}" for number in range(6, 0, -1)]
        self.due("Growing", "G", *six, "P0 = stop", "G = (a -> G) / {a}")
        self.raises("TooDeep", None, [("W", wide(201))] + definitions_of(*six, "P0 = stop"))
        self.raises("TooLarge", 200, [("W", wide(201))] + definitions_of(*six[1:], "P0 = stop"))

    def test_random_definitions(self):
        source = random.Random(5)
        seen = {}
        for _ in range(2000):
            names = ["P", "Q", "R", "S"][:source.randint(1, 4)]
            known = names + ["X"] * (source.random() < 0.1)
            tallest = source.randint(2, 5)
            pairs = [(name, naive.random_process(source, known, tallest)) for name in names]
            fault = naive.first_fault(pairs)
            seen[fault and fault[0]] = True
            if fault is None:
                self.assertEqual(Script(pairs).definitions, tuple(pairs))
            else:
                self.raises(fault[0], fault[1], pairs)
        self.assertEqual(set(seen), {None, "UnknownName", "Unguarded", "Growing"})

    def test_random_chains_of_references(self):
        source = random.Random(6)
        seen = {}
        for _ in range(300):
            names = [f"P{number}" for number in range(12)]
            many = source.randint(1, 3)
            often = source.random()
            pairs = []
            for at, name in enumerate(names):
                part = ("external", STOP, STOP)
                for to in source.sample(names[at + 1:], min(many, 11 - at)):
                    reference = ("name", to)
                    if source.random() < often:
                        reference = ("hide", (), reference)
                    part = ("internal", part, reference)
                pairs.append((name, part))
            source.shuffle(pairs)
            fault = naive.first_fault(pairs)
            seen[fault] = True
            if fault is None:
                self.assertEqual(len(Script(pairs).definitions), 12)
            else:
                self.raises(fault[0], fault[1], pairs)
        self.assertEqual(set(seen), {None, ("TooDeep", None), ("TooLarge", 200)})


if __name__ == "__main__":
    unittest.main()
