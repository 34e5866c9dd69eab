"""Sheets of formulas (point 32a)."""

import random
import unittest

import naive_systems as naive
from parley import errors
from parley.formulas import depth, parse_formula
from parley.holding import satisfies, states_with
from parley.sheets import is_sheet, rows_with, sheet_depth, sheet_of, sheet_satisfies, unfolded
from parley.systems import System
from test_formulas import tower

EVERY_KIND = (
    ("true",), ("loops",), ("not", 1), ("and", 0, 2), ("or", 3, 1), ("can", "a", 4), ("must", "tau", 5), ("might", "tick", 0),
)


def doubling(many, kind="and", first=("true",)):
    """A sheet whose formula has about two to the power of many tuples."""
    return (first,) + tuple((kind, at, at) for at in range(many))


def random_sheet(source, many):
    rows = [source.choice((("true",), ("loops",)))]
    while len(rows) < many:
        kind = source.choice(("true", "loops", "not", "and", "or", "can", "must", "might"))
        label = (source.choice(naive.ACTIONS),) if kind in ("can", "must", "might") else ()
        places = {"true": 0, "loops": 0, "and": 2, "or": 2}.get(kind, 1)
        rows.append((kind,) + label + tuple(source.randrange(len(rows)) for _ in range(places)))
    return tuple(rows)


def unfold(sheet, at):
    row = sheet[at]
    if row[0] in ("can", "must", "might"):
        return row[:2] + (unfold(sheet, row[2]),)
    return row[:1] + tuple(unfold(sheet, number) for number in row[1:])


class IsSheetTest(unittest.TestCase):
    def test_sheets(self):
        for rows in (EVERY_KIND, (("true",),), (("loops",),), (("true",), ("true",)), doubling(100), (("true",), ("not", 0), ("not", 0))):
            self.assertIs(is_sheet(rows), True, rows)

    def test_no_rows(self):
        self.assertIs(is_sheet(()), False)

    def test_numbers_that_are_no_earlier_rows(self):
        for number in (1, 2, 3, -1, -2, 10**30, -(10**30)):
            for row in (
                ("not", number), ("and", number, 0), ("and", 0, number), ("or", number, 0), ("or", 0, number),
                ("can", "a", number), ("must", "a", number), ("might", "a", number),
            ):
                self.assertIs(is_sheet((("true",), row)), False, row)
                self.assertIs(is_sheet((("true",), row, ("true",), ("true",))), False, row)
        self.assertIs(is_sheet((("not", 0),)), False)
        self.assertIs(is_sheet((("and", 0, 0), ("true",))), False)

    def test_actions(self):
        for kind in ("can", "must", "might"):
            for word in ("", "stop", "skip", "true", "loops", "A", "a b", "abcdefghijklm", "1"):
                self.assertIs(is_sheet((("true",), (kind, word, 0))), False, word)
            for word in ("a", "tau", "tick", "abcdefghijkl"):
                self.assertIs(is_sheet((("true",), (kind, word, 0))), True, word)
        # A wrong row makes the sheet wrong, wherever it stands.
        self.assertIs(is_sheet((("true",), ("can", "A", 0), ("true",))), False)


class SheetOfTest(unittest.TestCase):
    def test_parts_that_occur_several_times(self):
        self.assertEqual(sheet_of(("true",)), (("true",),))
        self.assertEqual(
            sheet_of(parse_formula("<a> loops & ([b] <a> loops | true)")),
            (("loops",), ("can", "a", 0), ("must", "b", 1), ("true",), ("or", 2, 3), ("and", 1, 4)),
        )
        self.assertEqual(
            sheet_of(parse_formula("true & !true | !(true & !true)")),
            (("true",), ("not", 0), ("and", 0, 1), ("not", 2), ("or", 2, 3)),
        )

    def test_left_part_comes_first(self):
        self.assertEqual(sheet_of(parse_formula("loops | true")), (("loops",), ("true",), ("or", 0, 1)))
        self.assertEqual(sheet_of(parse_formula("true | loops")), (("true",), ("loops",), ("or", 0, 1)))
        self.assertEqual(
            sheet_of(parse_formula("<<tau>> !loops & true")),
            (("loops",), ("not", 0), ("might", "tau", 1), ("true",), ("and", 2, 3)),
        )

    def test_random_formulas(self):
        source = random.Random(35)
        for _ in range(300):
            formula = naive.random_formula(source, 7)
            sheet = sheet_of(formula)
            self.assertIs(is_sheet(sheet), True)
            self.assertEqual(len(set(sheet)), len(sheet))
            self.assertEqual(unfolded(sheet), formula)
            self.assertEqual(sheet_depth(sheet), depth(formula))

    def test_high_formulas(self):
        sheet = sheet_of(tower(["not", "can", "might"], 9000))
        self.assertEqual((len(sheet), sheet[-1], sheet_depth(sheet)), (9001, ("might", "a", 8999), 6000))
        self.assertEqual(sheet_of(unfolded(sheet)), sheet)


class UnfoldedTest(unittest.TestCase):
    def too_large(self, due, *arguments, **options):
        with self.assertRaises(errors.TooLarge) as caught:
            unfolded(*arguments, **options)
        self.assertEqual(caught.exception.limit, due)

    def test_each_kind(self):
        loops = ("loops",)
        both = ("or", ("and", ("true",), ("not", loops)), loops)
        self.assertEqual(unfolded(EVERY_KIND[:7]), ("must", "tau", ("can", "a", both)))
        self.assertEqual(unfolded(EVERY_KIND), ("might", "tick", ("true",)))

    def test_limits(self):
        # Three tuples, of which the part with two of them occurs twice: five in all.
        sheet = (("true",), ("not", 0), ("and", 1, 1))
        self.assertEqual(unfolded(sheet, limit=5), ("and", ("not", ("true",)), ("not", ("true",))))
        for limit in (4, 3, 1):
            self.too_large(limit, sheet, limit=limit)
        self.assertEqual(unfolded((("true",),), limit=1), ("true",))
        self.too_large(1, (("true",), ("not", 0)), limit=1)

    def test_default_limit(self):
        self.assertEqual(sheet_depth(sheet_of(unfolded(doubling(12, first=("loops",))))), 1)
        self.too_large(10000, doubling(13))
        tall = (("true",),) + tuple(("not", at) for at in range(9999))
        self.assertEqual(len(sheet_of(unfolded(tall))), 10000)
        self.too_large(10000, tall + (("not", 9999),))

    def test_only_the_last_row_counts(self):
        self.assertEqual(unfolded(doubling(100) + (("true",),), limit=1), ("true",))
        self.assertEqual(unfolded(doubling(100) + (("not", 0),), limit=2), ("not", ("true",)))
        self.too_large(2, doubling(100) + (("not", 1),), limit=2)

    def test_huge_formulas(self):
        for many in (100, 20000):
            self.too_large(10000, doubling(many))
            self.too_large(10**9, doubling(many, "or"), limit=10**9)

    def test_random_sheets(self):
        source = random.Random(36)
        for _ in range(300):
            sheet = random_sheet(source, source.randint(1, 9))
            formula = unfold(sheet, len(sheet) - 1)
            size = naive.size(formula)
            self.assertEqual(unfolded(sheet, limit=size), formula)
            self.assertEqual(sheet_depth(sheet), naive.depth(formula))
            if size > 1:
                self.too_large(size - 1, sheet, limit=size - 1)


class DepthTest(unittest.TestCase):
    def test_depth_of_the_last_row(self):
        self.assertEqual([sheet_depth(EVERY_KIND[:at]) for at in range(1, 9)], [0, 1, 1, 1, 1, 2, 3, 1])

    def test_huge_formulas(self):
        rows = [("true",)]
        for at in range(0, 10000, 2):
            rows.extend([("can", "a", at), ("and", at + 1, at + 1)])
        self.assertEqual(sheet_depth(tuple(rows)), 5000)
        self.assertEqual(sheet_depth(doubling(10000)), 0)


class RowsTest(unittest.TestCase):
    def test_each_row(self):
        system = System(4, [(0, "a", 1), (1, "tau", 1), (2, "tau", 3), (3, "tick", 0), (2, "a", 2)])
        self.assertEqual(rows_with(system, EVERY_KIND), [
            (0, 1, 2, 3), (1,), (0, 2, 3), (0, 2, 3), (0, 1, 2, 3), (0, 2), (0, 3), (2, 3),
        ])
        self.assertIs(sheet_satisfies(system, EVERY_KIND), False)
        self.assertIs(sheet_satisfies(system, EVERY_KIND[:7]), True)

    def test_random_sheets(self):
        source = random.Random(37)
        for _ in range(400):
            system = naive.random_system(source, 5, 9)
            sheet = random_sheet(source, source.randint(1, 8))
            expected = [
                tuple(state for state in range(system.count) if naive.holds(system, state, unfold(sheet, at)))
                for at in range(len(sheet))
            ]
            self.assertEqual(rows_with(system, sheet), expected)
            self.assertIs(sheet_satisfies(system, sheet), 0 in expected[-1])
            formula = unfold(sheet, len(sheet) - 1)
            self.assertEqual(states_with(system, formula), expected[-1])
            self.assertIs(satisfies(system, formula), sheet_satisfies(system, sheet))

    def test_huge_formulas(self):
        system = naive.ring(*["a"] * 30)
        self.assertEqual(rows_with(system, doubling(20000))[-1], tuple(range(30)))
        rows = [("true",)]
        for at in range(0, 20000, 2):
            rows.extend([("can", "a", at), ("and", at + 1, at + 1)])
        self.assertIs(sheet_satisfies(system, tuple(rows)), True)
        self.assertEqual(rows_with(system, tuple(rows))[-1], tuple(range(30)))
        self.assertIs(sheet_satisfies(naive.line(*["a"] * 10000), tuple(rows)), True)
        self.assertIs(sheet_satisfies(naive.line(*["a"] * 9999), tuple(rows)), False)

    def test_many_states_and_rows(self):
        chain = naive.line(*["a", "tau"] * 1500)
        rows = [("true",)]
        for at in range(0, 3000, 2):
            rows.extend([("might", "a", at), ("or", at + 1, at + 1)])
        found = rows_with(chain, tuple(rows))
        self.assertEqual(found[-1], (0,))
        self.assertEqual(found[1], tuple(range(2999)))

    def test_returned_list_is_new(self):
        system = System(1, [])
        rows_with(system, EVERY_KIND).clear()
        self.assertEqual(len(rows_with(system, EVERY_KIND)), 8)


if __name__ == "__main__":
    unittest.main()
