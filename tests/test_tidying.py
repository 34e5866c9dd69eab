"""Tidy forms (points 57 and 58)."""

import random
import unittest

import naive
from parley.equivalence import compare_strongly
from parley.exploring import explore
from parley.scripts import Script
from parley.texts import parse_process, show_process
from parley.tidying import is_calm, tidy

STOP = ("stop",)


def plain(process):
    """The tidy form, rule by rule after the document."""
    kind = process[0]
    if kind in ("stop", "skip", "name"):
        return process
    if kind == "prefix":
        return (kind, process[1], plain(process[2]))
    if kind == "internal":
        return (kind, *sorted([plain(process[1]), plain(process[2])], key=naive.show))
    if kind == "external":
        rows = sorted([row for row in summands(plain(process[1])) + summands(plain(process[2])) if row != STOP], key=naive.show)
        kept = []
        for row in rows:
            if not (calm(row) and row in kept):
                kept.append(row)
        whole = kept[0] if kept else STOP
        for row in kept[1:]:
            whole = ("external", whole, row)
        return whole
    if kind == "sequence":
        first, second = plain(process[1]), plain(process[2])
        if first == STOP:
            return STOP
        if first[0] == "sequence":
            return (kind, first[1], plain((kind, first[2], second)))
        return (kind, first, second)
    if kind == "parallel":
        both = sorted([plain(process[2]), plain(process[3])], key=naive.show)
        return STOP if both == [STOP, STOP] else (kind, process[1], *both)
    part = plain(process[2])
    if kind == "hide":
        if not process[1] or part in (STOP, ("skip",)):
            return part
        if part[0] == "hide":
            return (kind, tuple(sorted(set(part[1]) | set(process[1]))), part[2])
        return (kind, process[1], part)
    return plain_rename(process, part)


def plain_rename(process, part):
    pairs = tuple((old, new) for old, new in process[1] if old != new)
    if not pairs or part in (STOP, ("skip",)):
        return part
    words = dict(pairs)
    if part[0] == "rename":
        first = dict(part[1])
        olds = sorted(set(first) | set(words))
        called = [(old, words.get(first.get(old, old), first.get(old, old))) for old in olds]
        return plain(("rename", tuple(called), part[2]))
    if part[0] == "prefix":
        return ("prefix", words.get(part[1], part[1]), plain(("rename", pairs, part[2])))
    return ("rename", pairs, part)


def summands(process):
    return summands(process[1]) + summands(process[2]) if process[0] == "external" else [process]


def calm(process):
    if process[0] == "external":
        return calm(process[1]) and calm(process[2])
    return process[0] in ("stop", "skip", "prefix")


class CalmTest(unittest.TestCase):
    def test_calm(self):
        for text in ("stop", "skip", "a -> P", "a -> (P | Q)", "a -> P + skip", "a -> P + (stop + b -> Q)", "stop + stop"):
            self.assertIs(is_calm(parse_process(text)), True, text)

    def test_not_calm(self):
        for text in (
            "P", "P | Q", "stop | stop", "stop ; stop", "stop <> stop", "(a -> P) / {a}", "stop [a=b]", "a -> P + Q",
            "(a -> P + skip) + (b -> P + (stop | stop))", "P + a -> P", "(P + stop) + stop",
        ):
            self.assertIs(is_calm(parse_process(text)), False, text)

    def test_long_choices(self):
        process = ("skip",)
        for at in range(5000):
            process = ("external", process, STOP) if at & 1 else ("external", STOP, process)
        self.assertIs(is_calm(process), True)
        self.assertIs(is_calm(("external", process, ("name", "P"))), False)


class TidyTest(unittest.TestCase):
    def check(self, text, expected):
        self.assertEqual(show_process(tidy(parse_process(text))), expected)
        self.assertEqual(tidy(parse_process(expected)), parse_process(expected))

    def test_example(self):
        self.check("(b -> stop + (stop + a -> P)) + a -> P | (skip ; P) [a=b] / {}", "(skip ; P) [a=b] | a -> P + b -> stop")

    def test_what_stays(self):
        for text in ("stop", "skip", "P", "a -> P", "P | Q", "a -> b -> skip", "P ; Q", "P / {a}", "P [a=b]", "P + Q", "P <a> Q"):
            self.check(text, text)

    def test_prefix(self):
        self.check("a -> (stop + stop)", "a -> stop")
        self.check("a -> (Q | P)", "a -> (P | Q)")

    def test_internal(self):
        self.check("Q | P", "P | Q")
        self.check("P | P", "P | P")
        self.check("stop | skip", "skip | stop")
        # Internal choices are not regrouped, and "stop" is not left out.
        self.check("P | (Q | R)", "P | (Q | R)")
        self.check("(R | Q) | P", "P | (Q | R)")
        self.check("(P | Q) | R", "P | Q | R")
        # Brackets are not part of the texts.
        self.check("(P <> Q) | (a -> stop)", "(P <> Q) | a -> stop")

    def test_order_is_that_of_the_texts(self):
        # "P" comes before "a", and a beginning before what is longer.
        self.check("a -> stop | P", "P | a -> stop")
        self.check("P1 | P", "P | P1")
        self.check("a1 -> stop + a -> stop", "a -> stop + a1 -> stop")
        # The whole text counts, also where brackets would stand in the choice.
        self.check("(P | Q) + P1", "(P | Q) + P1")
        self.check("Z + (P | Q)", "(P | Q) + Z")

    def test_external(self):
        self.check("c -> P + (b -> P + a -> P)", "a -> P + b -> P + c -> P")
        self.check("(stop + P) + (stop + stop)", "P")
        self.check("stop + stop", "stop")
        self.check("stop + skip", "skip")
        self.check("stop ; P + Q", "Q")
        # Equal summands: of calm ones one is left, of the others all.
        self.check("a -> P + a -> P", "a -> P")
        self.check("skip + (skip + skip)", "skip")
        self.check("P + P", "P + P")
        self.check("(P | Q) + (Q | P)", "(P | Q) + (P | Q)")
        self.check("(P + skip) + (P + skip)", "P + P + skip")
        self.check("a -> (P + Q) + a -> (Q + P)", "a -> (P + Q)")
        # What is calm only looks at the summand itself.
        self.check("P ; Q + P ; Q", "P ; Q + P ; Q")

    def test_sequence(self):
        self.check("(P ; Q) ; R", "P ; (Q ; R)")
        self.check("((P ; Q) ; R) ; a -> stop", "P ; (Q ; (R ; a -> stop))")
        self.check("(P ; Q) ; (R ; P)", "P ; (Q ; (R ; P))")
        self.check("stop ; P", "stop")
        self.check("(stop + stop) ; P", "stop")
        self.check("P ; stop", "P ; stop")
        self.check("(P ; stop) ; Q", "P ; stop")
        self.check("P ; stop ; Q ; R", "P ; stop")
        self.check("P ; (Q ; stop) ; R", "P ; (Q ; stop)")
        self.check("skip ; P", "skip ; P")
        self.check("(skip ; stop) ; P", "skip ; stop")

    def test_parallel(self):
        self.check("Q <a> P", "P <a> Q")
        self.check("stop <a, b> stop", "stop")
        self.check("(stop + stop) <> stop ; P", "stop")
        self.check("stop <> skip", "skip <> stop")
        self.check("skip <> skip", "skip <> skip")
        # Several ones are not regrouped.
        self.check("R <> (Q <> P)", "P <> Q <> R")
        self.check("R <a> (Q <> P)", "P <> Q <a> R")

    def test_hide(self):
        self.check("P / {}", "P")
        self.check("stop / {a}", "stop")
        self.check("skip / {a}", "skip")
        self.check("P / {a} / {b}", "P / {a, b}")
        self.check("P / {b, c} / {a, b} / {d}", "P / {a, b, c, d}")
        self.check("P / {a} / {}", "P / {a}")
        self.check("P / {} / {a}", "P / {a}")
        self.check("(P + stop) / {a} / {a}", "P / {a}")
        self.check("(a -> P) / {a}", "(a -> P) / {a}")
        self.check("(stop <> stop) / {a}", "stop")

    def test_rename(self):
        self.check("P [a=a]", "P")
        self.check("P [a=a, b=c]", "P [b=c]")
        self.check("stop [a=b]", "stop")
        self.check("skip [a=b]", "skip")
        self.check("P [a=b] [b=c]", "P [a=c, b=c]")
        self.check("P [a=b] [a=c]", "P [a=b]")
        self.check("P [a=b] [a=c, c=d]", "P [a=b, c=d]")
        self.check("P [a=b, b=a] [a=b, b=a]", "P")
        self.check("P [a=b] [b=a]", "P [b=a]")
        self.check("P [a=b] [b=b]", "P [a=b]")
        self.check("P [a=a] [b=c]", "P [b=c]")
        self.check("(a -> P) [a=b]", "b -> P [a=b]")
        self.check("(a -> c -> P) [a=b]", "b -> c -> P [a=b]")
        self.check("(a -> stop) [a=b]", "b -> stop")
        self.check("(a -> b -> skip) [a=b, b=a]", "b -> a -> skip")
        self.check("(a -> P [a=c]) [a=b, c=d]", "b -> P [a=d, c=d]")
        self.check("(a -> P [a=b]) [b=a]", "a -> P [b=a]")
        self.check("(a -> P) [a=a]", "a -> P")
        self.check("(a -> P + b -> Q) [a=b]", "(a -> P + b -> Q) [a=b]")

    def test_one_rule_in_another(self):
        self.check("((b -> stop + stop) [b=a] + a -> stop) / {}", "a -> stop")
        self.check("(P ; stop ; Q) / {a} / {b} | stop ; P", "(P ; stop) / {a, b} | stop")
        self.check("((a -> P) [a=b] <> stop) ; (stop <> stop)", "(b -> P [a=b] <> stop) ; stop")

    def test_random_processes(self):
        source = random.Random(130)
        for _ in range(1500):
            process = naive.random_process(source, ("P", "Q", "R"), 6)
            found = tidy(process)
            self.assertEqual(found, plain(process), naive.show(process))
            self.assertEqual(tidy(found), found)
            self.assertIs(is_calm(process), calm(process))

    def test_regrouped_processes(self):
        """Point 58: the order and the grouping do not matter where the document says so."""
        source = random.Random(131)
        many = 0
        for _ in range(1000):
            process = naive.random_process(source, ("P", "Q", "R"), 6)
            other = regrouped(source, process)
            many += process != other
            self.assertEqual(tidy(other), tidy(process))
        self.assertGreater(many, 300)

    def test_strong_equivalence(self):
        """Point 58: the tidy form is strongly equivalent to the process."""
        source = random.Random(132)
        many = 0
        while many < 150:
            pairs = [(name, naive.random_process(source, ("P", "Q", "R"), 4)) for name in ("P", "Q", "R")]
            process = naive.random_process(source, ("P", "Q", "R"), 5)
            if naive.first_fault(pairs) is None and naive.explored(dict(pairs), process, 60) is not None:
                if tidy(process) != process:
                    many += 1
                    script = Script(pairs)
                    both = [explore(script, place)[0] for place in (process, tidy(process))]
                    self.assertEqual(compare_strongly(*both, limit=10**6)[0], "same")

    def test_tall_processes(self):
        # 200 processes in all, which are 19 high; their tidy forms are much higher.
        def balanced(rows, kind):
            while len(rows) > 1:
                rows = [(kind, rows[at], rows[at + 1]) for at in range(0, len(rows), 2)]
            return rows[0]

        names = [("name", f"P{at}") for at in range(64)]
        found = tidy(balanced(list(names), "sequence"))
        for at in range(63):
            self.assertEqual(found[1], names[at])
            found = found[2]
        self.assertEqual(found, names[63])
        found = tidy(balanced(names[::-1], "external"))
        for name in sorted(names[1:], key=naive.show, reverse=True):
            self.assertEqual(found[2], name)
            found = found[1]
        self.assertEqual(found, names[0])

    def test_long_chains(self):
        process = ("skip",)
        for at in range(1500):
            process = ("sequence", process, ("name", "P"))
        self.assertEqual(show_process(tidy(process)), "skip ; " + "(P ; " * 1499 + "P" + ")" * 1499)
        process = ("name", "P")
        for at in range(3000):
            process = ("prefix", "a", process)
        self.assertEqual(show_process(tidy(("rename", (("a", "b"),), process))), "b -> " * 3000 + "P [a=b]")


def regrouped(source, process):
    """A process that differs only in the order and grouping that do not matter."""
    kind = process[0]
    if kind in ("stop", "skip", "name"):
        return process
    if kind in ("internal", "parallel"):
        parts = [regrouped(source, part) for part in process[-2:]]
        source.shuffle(parts)
        return process[:-2] + tuple(parts)
    if kind in ("external", "sequence"):
        rows = [regrouped(source, row) for row in flat(process, kind)]
        if kind == "external":
            source.shuffle(rows)
        while len(rows) > 1:
            at = source.randrange(len(rows) - 1)
            rows[at:at + 2] = [(kind, rows[at], rows[at + 1])]
        return rows[0]
    return process[:-1] + (regrouped(source, process[-1]),)


def flat(process, kind):
    return flat(process[1], kind) + flat(process[2], kind) if process[0] == kind else [process]


if __name__ == "__main__":
    unittest.main()
