"""The steps of processes (point 9)."""

import random
import unittest

import naive
from parley import errors
from parley.processes import height
from parley.scripts import Script
from parley.steps import can_do, steps
from parley.texts import parse_process, parse_script, show_process

EMPTY = parse_script("")
STOP = ("stop",)


def choice(event, many, tail):
    """A process with as many steps of an event, each to another process."""
    if many == 1:
        return ("prefix", event, tail)
    left = choice(event, many // 2, ("prefix", "l", tail))
    return ("external", left, choice(event, many - many // 2, ("prefix", "r", tail)))


def crossed(left, right, tail=STOP):
    """A process with left * right steps of one event."""
    return ("parallel", ("a",), choice("a", left, tail), choice("a", right, tail))


class StepsTest(unittest.TestCase):
    def check(self, text, expected, script=EMPTY):
        """The steps, written as an action and the text of a process."""
        found = steps(script, parse_process(text))
        self.assertEqual([(action, show_process(target)) for action, target in found], expected)
        self.assertEqual(can_do(script, parse_process(text)), sorted({action for action, _ in expected}))

    def test_stop(self):
        self.check("stop", [])

    def test_skip(self):
        self.check("skip", [("tick", "stop")])

    def test_prefix(self):
        self.check("a -> b -> skip", [("a", "b -> skip")])

    def test_internal(self):
        self.check("b -> stop | a -> stop", [("tau", "a -> stop"), ("tau", "b -> stop")])
        self.check("skip | skip", [("tau", "skip")])

    def test_external(self):
        self.check("b -> P + a -> stop", [("a", "stop"), ("b", "P")], parse_script("P = stop"))
        self.check("skip + a -> stop", [("a", "stop"), ("tick", "stop")])
        self.check("a -> stop + skip", [("a", "stop"), ("tick", "stop")])
        self.check("skip + skip", [("tick", "stop")])
        self.check("a -> stop + a -> stop", [("a", "stop")])
        self.check("a -> stop + a -> skip", [("a", "skip"), ("a", "stop")])

    def test_external_is_not_resolved_by_tau(self):
        self.check("(a -> stop | skip) + b -> stop", [
            ("b", "stop"), ("tau", "a -> stop + b -> stop"), ("tau", "skip + b -> stop"),
        ])
        self.check("b -> stop + (a -> stop | skip)", [
            ("b", "stop"), ("tau", "b -> stop + a -> stop"), ("tau", "b -> stop + skip"),
        ])

    def test_external_with_the_same_loop_on_both_sides(self):
        script = parse_script("L = a -> L")
        self.check("L / {a} + L / {a}", [("tau", "L / {a} + L / {a}")], script)

    def test_sequence(self):
        self.check("skip ; b -> stop", [("tau", "b -> stop")])
        self.check("a -> skip ; b -> stop", [("a", "skip ; b -> stop")])
        self.check("stop ; b -> stop", [])
        self.check("(skip + a -> skip) ; b -> stop", [("a", "skip ; b -> stop"), ("tau", "b -> stop")])
        self.check("(a -> stop | skip) ; skip", [("tau", "a -> stop ; skip"), ("tau", "skip ; skip")])

    def test_parallel_alone(self):
        self.check("a -> stop <> b -> stop", [("a", "stop <> b -> stop"), ("b", "a -> stop <> stop")])
        self.check("a -> stop <> a -> stop", [("a", "a -> stop <> stop"), ("a", "stop <> a -> stop")])

    def test_parallel_together(self):
        self.check("a -> P <a> a -> stop", [("a", "P <a> stop")], parse_script("P = stop"))
        self.check("a -> stop <a> b -> stop", [("b", "a -> stop <a> stop")])
        self.check("a -> stop <b> a -> skip", [("a", "a -> stop <b> skip"), ("a", "stop <b> a -> skip")])
        self.check("(a -> stop + a -> skip) <a> (a -> stop + a -> skip)", [
            ("a", "skip <a> skip"), ("a", "skip <a> stop"), ("a", "stop <a> skip"), ("a", "stop <a> stop"),
        ])

    def test_parallel_tick(self):
        self.check("skip <> skip", [("tick", "stop")])
        self.check("skip <a> stop", [])
        self.check("stop <> skip", [])
        self.check("skip <> a -> skip", [("a", "skip <> skip")])
        self.check("(skip <> skip) <> skip", [("tick", "stop")])

    def test_parallel_tau_is_done_alone(self):
        self.check("(stop | skip) <a> skip", [("tau", "skip <a> skip"), ("tau", "stop <a> skip")])
        self.check("skip <a> (stop | skip)", [("tau", "skip <a> skip"), ("tau", "skip <a> stop")])

    def test_parallel_with_the_same_loop_on_both_sides(self):
        self.check("L <> L", [("a", "L <> L")], parse_script("L = a -> L"))

    def test_hide(self):
        self.check("(a -> skip) / {a}", [("tau", "skip / {a}")])
        self.check("(b -> skip) / {a}", [("b", "skip / {a}")])
        self.check("skip / {a}", [("tick", "stop")])
        self.check("(stop | skip) / {a}", [("tau", "skip / {a}"), ("tau", "stop / {a}")])
        self.check("(a -> stop) / {}", [("a", "stop / {}")])
        self.check("(a -> stop + b -> stop) / {a, b}", [("tau", "stop / {a, b}")])

    def test_rename(self):
        self.check("(a -> skip) [a=b]", [("b", "skip [a=b]")])
        self.check("(c -> skip) [a=b]", [("c", "skip [a=b]")])
        self.check("(a -> stop + b -> stop) [a=b, b=a]", [("a", "stop [a=b, b=a]"), ("b", "stop [a=b, b=a]")])
        self.check("(a -> stop + b -> stop) [a=b]", [("b", "stop [a=b]")])
        self.check("skip [a=b]", [("tick", "stop")])
        self.check("(stop | stop) [a=b]", [("tau", "stop [a=b]")])

    def test_name(self):
        script = parse_script("P = a -> Q + Q\nQ = skip | stop")
        self.check("P", [("a", "Q"), ("tau", "a -> Q + skip"), ("tau", "a -> Q + stop")], script)
        self.check("Q", [("tau", "skip"), ("tau", "stop")], script)

    def test_nested(self):
        script = parse_script("P = a -> b -> P")
        self.check("((P <a> P) / {a} ; skip) [b=c]", [("tau", "((b -> P <a> b -> P) / {a} ; skip) [b=c]")], script)
        self.check("((skip / {a}) [a=b] <> skip) ; P", [("tau", "P")], script)
        self.check("(b -> P <a> b -> P) / {a}", [("b", "(P <a> b -> P) / {a}"), ("b", "(b -> P <a> P) / {a}")], script)

    def test_order_by_action_and_then_by_text(self):
        self.check("z -> stop + (skip + (a -> (Q + P) + (a -> Q / {} + (a -> Q + a -> (Q | P)))))", [
            ("a", "Q"), ("a", "Q + P"), ("a", "Q / {}"), ("a", "Q | P"), ("tick", "stop"), ("z", "stop"),
        ], parse_script("P = stop\nQ = stop"))
        self.check("tb -> stop + (skip + tic -> stop)", [("tb", "stop"), ("tic", "stop"), ("tick", "stop")])
        self.check("zoo -> stop + (ta -> stop + (stop | stop))", [
            ("ta", "stop"), ("tau", "zoo -> stop + (ta -> stop + stop)"), ("zoo", "stop"),
        ])

    def test_order_of_texts_that_begin_alike(self):
        tails = ["(" + " + ".join(["b -> stop"] * many) + ")" for many in (1, 2, 3)] + ["stop", "skip", "b -> skip"]
        for rows in (tails, tails[::-1]):
            found = steps(EMPTY, parse_process(" + ".join("a -> " + tail for tail in rows)))
            texts = [show_process(target) for _, target in found]
            self.assertEqual(texts, sorted(texts))
            self.assertEqual(len(texts), 6)

    def test_order_of_very_long_texts(self):
        long = " -> ".join(["abcdefghijkl"] * 9)
        process = parse_process(f"a -> {long} -> b -> stop")
        for _ in range(8):
            process = ("external", process, process)
        found = steps(EMPTY, ("internal", process, ("prefix", "a", process[1])))
        texts = [show_process(target) for _, target in found]
        self.assertGreater(len(texts[1]), 2000)
        self.assertEqual(texts, sorted(texts))

    def test_names_behind_prefixes_need_no_steps(self):
        script = parse_script("P = a -> P")
        self.assertEqual(steps(script, ("prefix", "b", ("name", "P"))), [("b", ("name", "P"))])

    def test_random_processes(self):
        source = random.Random(7)
        many = 0
        while many < 400:
            pairs = [(name, naive.random_process(source, ("P", "Q"), 4)) for name in ("P", "Q")]
            if naive.first_fault(pairs) is None:
                process = naive.random_process(source, ("P", "Q"), 6)
                expected = naive.step_list(dict(pairs), process)
                self.assertEqual(steps(Script(pairs), process), expected)
                self.assertEqual(can_do(Script(pairs), process), sorted({action for action, _ in expected}))
                many += 1

    def test_returned_lists_are_new(self):
        script = parse_script("P = a -> P")
        steps(script, ("name", "P")).clear()
        can_do(script, ("name", "P")).clear()
        self.assertEqual(steps(script, ("name", "P")), [("a", ("name", "P"))])
        self.assertEqual(can_do(script, ("name", "P")), ["a"])


class LimitsTest(unittest.TestCase):
    def too_large(self, process, script=EMPTY):
        for function in (steps, can_do):
            with self.assertRaises(errors.TooLarge) as caught:
                function(script, process)
            self.assertEqual(caught.exception.limit, 2000)

    def test_exactly_two_thousand_and_one_more(self):
        self.assertEqual(len(steps(EMPTY, crossed(50, 40))), 2000)
        self.too_large(crossed(69, 29))
        self.too_large(crossed(128, 128))

    def test_steps_done_alone(self):
        both = ("parallel", (), crossed(50, 20), crossed(40, 25))
        self.assertEqual(len(steps(EMPTY, both)), 2000)
        self.too_large(("parallel", (), crossed(50, 20), crossed(77, 13)))
        self.assertEqual(len(steps(EMPTY, ("external", crossed(50, 20), crossed(40, 25, ("skip",))))), 2000)
        self.too_large(("external", crossed(50, 20), crossed(77, 13, ("skip",))))

    def test_equal_steps_count_once(self):
        self.assertEqual(len(steps(EMPTY, ("external", crossed(50, 40), crossed(50, 40)))), 2000)

    def test_millions_are_refused_at_once(self):
        big = crossed(50, 40)
        self.too_large(("parallel", ("a",), big, big))

    def test_a_process_from_whose_steps_its_steps_are_made(self):
        full, over = crossed(50, 40), crossed(69, 29)
        for make in (
            lambda part: ("hide", ("a",), part),
            lambda part: ("rename", (("a", "b"),), part),
            lambda part: ("sequence", part, STOP),
            lambda part: ("external", STOP, part),
            lambda part: ("external", part, STOP),
            lambda part: ("parallel", (), part, STOP),
            lambda part: ("parallel", (), STOP, part),
            lambda part: ("sequence", ("hide", ("a",), part), STOP),
        ):
            self.assertEqual(len(steps(EMPTY, make(full))), 2000)
            self.too_large(make(over))
        for process in (("parallel", ("a",), over, STOP), ("parallel", ("a",), STOP, over)):
            self.too_large(process)
        self.assertEqual(steps(EMPTY, ("parallel", ("a",), full, STOP)), [])
        script = Script([("P", full), ("Q", over)])
        self.assertEqual(len(steps(script, ("name", "P"))), 2000)
        self.too_large(("name", "Q"), script)
        self.too_large(("parallel", ("a",), STOP, ("name", "Q")), script)

    def test_a_process_whose_steps_are_not_needed(self):
        over = crossed(69, 29)
        self.assertEqual(steps(EMPTY, ("prefix", "a", over)), [("a", over)])
        self.assertEqual(steps(EMPTY, ("internal", over, STOP)), [("tau", over), ("tau", STOP)])
        self.assertEqual(steps(EMPTY, ("sequence", ("skip",), over)), [("tau", over)])
        self.assertEqual(steps(EMPTY, ("sequence", STOP, over)), [])

    def test_unknown_names(self):
        script = parse_script("P = stop")
        process = ("external", ("name", "Z"), ("prefix", "a", ("parallel", (), ("name", "Y2"), ("name", "Y10"))))
        for function in (steps, can_do):
            with self.assertRaises(errors.UnknownName) as caught:
                function(script, process)
            self.assertEqual(caught.exception.name, "Y10")

    def test_unknown_names_come_first(self):
        process = ("external", crossed(69, 29), ("prefix", "a", ("name", "X")))
        for function in (steps, can_do):
            with self.assertRaises(errors.UnknownName) as caught:
                function(EMPTY, process)
            self.assertEqual(caught.exception.name, "X")

    def test_deep_states(self):
        script, process = tower()
        for _ in range(5):
            taus = [target for action, target in steps(script, process) if action == "tau"]
            self.assertEqual(len(taus), 1)
            process = taus[0]
        self.assertEqual([action for action, _ in steps(script, process)][-2:], ["a9", "z"])
        self.assertEqual(show_process(process).count(" + "), 5 * 11 * 16)
        self.assertEqual(height(process), 5 * 11 * 16 + 5 + 2)


def tower():
    """A script, and a process with a state that is about 900 high."""
    definitions = []
    target = ("prefix", "z", STOP)
    for level in range(5):
        body = ("hide", ("h",), ("prefix", "h", target))
        for row in range(11):
            for number in range(16):
                body = ("external", body, ("prefix", "a" + str(number), STOP))
            definitions.append((f"P{level}x{row}", body))
            body = ("name", definitions[-1][0])
        target = body
    return Script(definitions), target


if __name__ == "__main__":
    unittest.main()
