"""Marking the states of a system at which formulas hold.

A mark is an integer with one bit for each state: so it takes hardly any time to join marks.
"""

from parley.behaviours import diverging


def mark_of_true(marker, row, inner):
    return marker.every


def mark_of_not(marker, row, inner):
    return marker.every ^ inner[0]


def mark_of_and(marker, row, inner):
    return inner[0] & inner[1]


def mark_of_or(marker, row, inner):
    return inner[0] | inner[1]


def mark_of_can(marker, row, inner):
    return marker.before(row[1], inner[0])


def mark_of_must(marker, row, inner):
    return marker.every ^ marker.before(row[1], marker.every ^ inner[0])


def mark_of_might(marker, row, inner):
    return marker.softly_before(row[1], inner[0])


def mark_of_loops(marker, row, inner):
    return marker.looping()


RULES = {
    "true": mark_of_true,
    "not": mark_of_not,
    "and": mark_of_and,
    "or": mark_of_or,
    "can": mark_of_can,
    "must": mark_of_must,
    "might": mark_of_might,
    "loops": mark_of_loops,
}


class Marker:
    """Finds the marks of formulas from those of their parts."""

    def __init__(self, system):
        # The mark of all states.
        self.every = (1 << system.count) - 1
        self._system = system
        self._edges = {}
        for source, action, target in system.edges:
            self._edges.setdefault(action, []).append((source, target))
        self._sources = {}
        for source, target in self._edges.get("tau", []):
            self._sources.setdefault(target, []).append(source)
        # What was found before: the same marks come up again and again in large sheets.
        self._before = {}
        self._softened = {}
        self._looping = -1

    def mark(self, row, inner):
        """The mark of a formula, or of a row of a sheet, from the marks of its parts."""
        rule = RULES[row[0]]
        return rule(self, row, inner)

    def states(self, mark):
        """The ascending tuple of the states of a mark."""
        return tuple(marked(mark))

    def before(self, action, mark):
        """The mark of the states from which an edge with an action leads to a marked state."""
        if (action, mark) not in self._before:
            signs = self._signs(mark)
            found = ["0"] * self._system.count
            for source, target in self._edges.get(action, []):
                if signs[target] == "1":
                    found[source] = "1"
            self._before[(action, mark)] = joined_signs(found)
        return self._before[(action, mark)]

    def softly_before(self, action, mark):
        """The mark of the states from which a soft step with an action leads to a marked state."""
        if action == "tau":
            return self._softly(mark)
        return self._softly(self.before(action, self._softly(mark)))

    def looping(self):
        """The mark of the states that diverge."""
        if self._looping < 0:
            found = ["0"] * self._system.count
            for state in diverging(self._system):
                found[state] = "1"
            self._looping = joined_signs(found)
        return self._looping

    def _softly(self, mark):
        """The mark of the states from which chains of edges with "tau" lead to marked states."""
        if mark not in self._softened:
            found = list(self._signs(mark))
            pending = [state for state, sign in enumerate(found) if sign == "1"]
            while pending:
                state = pending.pop()
                for source in self._sources.get(state, []):
                    if found[source] == "0":
                        found[source] = "1"
                        pending.append(source)
            self._softened[mark] = joined_signs(found)
        return self._softened[mark]

    def _signs(self, mark):
        """A text with a sign for each state: "1" if it is marked."""
        return f"{mark:b}".zfill(self._system.count)[::-1]


def marked(mark):
    """The ascending list of the numbers of the bits that a mark has."""
    signs = f"{mark:b}"[::-1]
    found = []
    at = signs.find("1")
    while at >= 0:
        found.append(at)
        at = signs.find("1", at + 1)
    return found


def joined_signs(signs):
    """The mark with the signs of all states."""
    return int("".join(signs)[::-1], 2)
