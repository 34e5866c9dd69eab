"""Sheets whose formulas tell apart what was parted round by round."""

from parley.sheets import row_number


def sheet_of_plans(plans):
    """The sheet whose rows follow the plans; the one with the greatest key leads to the last row.

    A plan says how the formula of its key is made. It is a tuple of a boolean, the beginning of a
    row, which is ("loops",) or a word and an action, and the keys of formulas; these keys are less
    than its own one. The formula says that a step leads to where all the formulas of the keys hold,
    or that there is divergence; or, if the boolean is True, it denies this.
    """
    numbers = {}
    rows = {}
    for key in sorted(plans):
        is_denied, head, inner = plans[key]
        if head == ("loops",):
            number = row_number(numbers, head)
        else:
            number = row_number(numbers, (*head, row_of_all(numbers, [rows[other] for other in inner])))
        rows[key] = row_number(numbers, ("not", number)) if is_denied else number
    return tuple(list(numbers))


def row_of_all(numbers, inner):
    """The number of a row that says that all of several rows hold."""
    if not inner:
        return row_number(numbers, ("true",))
    number = inner[0]
    for other in inner[1:]:
        number = row_number(numbers, ("and", number, other))
    return number


class Teller:
    """Finds a formula that holds at the states of one class and not at those of another one.

    The object `moving` knows what classes do: `moving.moves_of(number)` gives a dict that has for
    each action the list of the classes to which steps lead from a class, and `moving.word` is the
    word for such steps. If there are several classes in round 0, `moving.loops_at(number)` tells
    whether the states of a class diverge.
    """

    def __init__(self, parting, moving):
        self._parting = parting
        self._moving = moving

    def sheet(self, first, second):
        """The sheet of a formula no deeper than the round in which two classes were parted.

        In round 0 it has the depth of "loops".
        """
        plans = {}
        pending = [self._parting.parted(first, second)]
        while pending:
            key = pending.pop()
            if key not in plans:
                plans[key] = self._plan(key)
                pending.extend(plans[key][2])
        return sheet_of_plans(plans)

    def _plan(self, key):
        """The plan for two classes, which have these numbers in the round in which they were parted."""
        step, first, second = key
        if step == 0:
            return (not self._moving.loops_at(first), ("loops",), [])
        mine = self._moving.moves_of(first)
        theirs = self._moving.moves_of(second)
        plan = self._plan_of_step(step, mine, theirs, False)
        return self._plan_of_step(step, theirs, mine, True) if plan == () else plan

    def _plan_of_step(self, step, mine, theirs, is_denied):
        """The plan that tells of a step that the one side has and the other one has not.

        The empty tuple if there is no step of this kind.
        """
        for action in mine:
            others = theirs.get(action, [])
            known = {self._parting.class_after(number, step - 1): True for number in others}
            for number in mine[action]:
                if self._parting.class_after(number, step - 1) not in known:
                    keys = sorted(set([self._parting.parted(number, other) for other in others]))
                    return (is_denied, (self._moving.word, action), keys)
        return ()
