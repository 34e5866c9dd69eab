"""Sheets: formulas in which each part is written once."""

from parley.errors import TooLarge
from parley.formulas import depth_above, formula_parts
from parley.marking import Marker
from parley.processes import fold
from parley.systems import is_action


def is_sheet(rows):
    """Whether a tuple of rows is a sheet."""
    return len(rows) > 0 and all([is_row(row, at) for at, row in enumerate(rows)])


def is_row(row, at):
    """Whether a row names earlier rows only, and an action where it names one."""
    if row[0] in ("can", "must", "might") and not is_action(row[1]):
        return False
    return all([0 <= number < at for number in formula_parts(row)])


def sheet_of(formula):
    """The sheet of a formula, with the different formulas in it in the order in which they end."""
    numbers = {}
    fold(formula, formula_parts, lambda place, inner: row_number(numbers, with_numbers(place, inner)))
    return tuple(list(numbers))


def with_numbers(formula, inner):
    """The row of a formula, with numbers in the places of its parts."""
    return formula[:len(formula) - len(inner)] + tuple(inner)


def row_number(numbers, row):
    """The number of a row, which gets the next one if it has none."""
    return numbers.setdefault(row, len(numbers))


def unfolded(sheet, *, limit=10000):
    """The formula for which a sheet stands; raises TooLarge(limit) if it has too many tuples."""
    sizes = []
    for row in sheet:
        size = 1 + sum([sizes[number] for number in formula_parts(row)])
        # Sizes beyond the limit are all alike; they would get thousands of digits.
        sizes.append(min(size, limit + 1))
    if sizes[-1] > limit:
        raise TooLarge(limit)
    formulas = []
    for row in sheet:
        formulas.append(with_numbers(row, [formulas[number] for number in formula_parts(row)]))
    return formulas[-1]


def sheet_depth(sheet):
    """The depth of the formula for which a sheet stands."""
    depths = []
    for row in sheet:
        depths.append(depth_above(row, [depths[number] for number in formula_parts(row)]))
    return depths[-1]


def rows_with(system, sheet):
    """The list of the ascending tuples of the states at which the formulas of the rows hold."""
    marker = Marker(system)
    known = {}
    found = []
    for mark in row_marks(marker, sheet):
        if mark not in known:
            known[mark] = marker.states(mark)
        found.append(known[mark])
    return found


def sheet_satisfies(system, sheet):
    """Whether the formula for which a sheet stands holds at state 0."""
    marks = row_marks(Marker(system), sheet)
    return marks[-1] & 1 == 1


def row_marks(marker, sheet):
    """The list of the marks of the states at which the formulas of the rows hold."""
    marks = []
    for row in sheet:
        marks.append(marker.mark(row, [marks[number] for number in formula_parts(row)]))
    return marks
