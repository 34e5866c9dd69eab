"""Relations between the states of two systems."""

from parley.certifying import is_ascending
from parley.errors import TooLarge


def check_product(first, second, limit):
    """Raises TooLarge(limit) if two systems have too many pairs of states."""
    if first.count * second.count > limit:
        raise TooLarge(limit)


def common_pairs(numbers, many):
    """The ascending list of the pairs of a state of the first and one of the second system in one class.

    The list has the numbers of the classes of all states; those of the first system are so many,
    and come first.
    """
    others = {}
    for state, number in enumerate(numbers[many:]):
        others.setdefault(number, []).append(state)
    found = []
    for state, number in enumerate(numbers[:many]):
        found.extend([(state, other) for other in others.get(number, [])])
    return found


def is_of_states(first, second, relation):
    """Whether a list of pairs is ascending, has the two starts, and has states of the systems only."""
    if not is_ascending(relation) or (0, 0) not in relation:
        return False
    return all([0 <= state < first.count and 0 <= other < second.count for state, other in relation])


def turned(relation):
    """The list of the pairs in which the states have changed their places."""
    return [(other, state) for state, other in relation]


class Partners:
    """The states to which a relation leads; equal groups of them have one number."""

    def __init__(self, relation):
        # For each state the list of its partners.
        self.partners = {}
        for state, other in relation:
            self.partners.setdefault(state, []).append(other)
        # The groups are dicts; a state has a number only if it has partners.
        self.groups = []
        self.group_of = {}
        numbers = {}
        for state in self.partners:
            row = tuple(self.partners[state])
            if row not in numbers:
                numbers[row] = len(self.groups)
                self.groups.append({other: True for other in row})
            self.group_of[state] = numbers[row]


def answers_all(system, relation, answers):
    """Whether for each pair each edge of its first state, one of the system, is answered.

    `answers.leads(state, action, number, group)` tells whether a partner answers: whether steps
    with the action lead from it into a group of states, which is known by its number.
    """
    known = Partners(relation)
    for state in known.partners:
        needed = [(action, known.group_of.get(target, -1)) for action, target in system.leaving(state)]
        for action, number in sorted(set(needed)):
            if number < 0:
                return False
            for partner in known.partners[state]:
                if not answers.leads(partner, action, number, known.groups[number]):
                    return False
    return True


class EdgeAnswers:
    """Answers by single edges."""

    def __init__(self, system):
        self._edges = {edge: True for edge in system.edges}
        self._behind = {}
        for source, action, target in system.edges:
            self._behind.setdefault((source, action), []).append(target)
        self._known = {}

    def leads(self, state, action, number, group):
        """Whether an edge with an action leads from a state into a group with a number."""
        key = (state, action, number)
        if key not in self._known:
            self._known[key] = self._has_edge(state, action, group)
        return self._known[key]

    def _has_edge(self, state, action, group):
        found = self._behind.get((state, action), [])
        # The shorter of the two ways is taken: a star has an edge to each of many groups.
        if len(group) < len(found):
            for target in group:
                if (state, action, target) in self._edges:
                    return True
            return False
        for target in found:
            if target in group:
                return True
        return False
