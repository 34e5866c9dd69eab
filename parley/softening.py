"""Parting the states of a system by soft steps and by divergence."""

from parley.behaviours import diverging
from parley.condensing import Condensed
from parley.errors import TooLarge
from parley.marking import marked
from parley.parting import Parting

MOST_STATES = 2000


class SoftSigns:
    """What the groups of a condensed system do by soft steps: to which classes these lead.

    Several classes are a mark: an integer with one bit for each of them.
    """

    def __init__(self, condensed):
        many = len(condensed.groups)
        # For each group the mark behind soft steps with "tau", and a dict of those behind other actions.
        self.silent = [0] * many
        self.loud = [{} for _ in range(many)]
        self._condensed = condensed
        self._soft_sources = [[] for _ in range(many)]
        self._other_sources = [[] for _ in range(many)]
        for group in range(many):
            for target in condensed.softs[group]:
                self._soft_sources[target].append(group)
            for _, target in condensed.others[group]:
                self._other_sources[target].append(group)

    def touch(self, moved, class_of):
        """The ascending list of the groups whose soft steps lead to moved groups."""
        near = []
        for group in self._softly_before([group for group, _ in moved]):
            mark = 1 << class_of[group]
            for target in self._condensed.softs[group]:
                mark = mark | self.silent[target]
            if mark != self.silent[group]:
                self.silent[group] = mark
                near.append(group)
        touched = {group: True for group in near}
        sources = []
        for group in near:
            sources.extend(self._other_sources[group])
        for group in self._softly_before(sources):
            marks = self._marks_of(group)
            if marks != self.loud[group]:
                self.loud[group] = marks
                touched[group] = True
        return sorted(touched)

    def sign(self, group):
        """The marks behind all soft steps of a group."""
        return (self.silent[group], tuple(sorted(self.loud[group].items())))

    def _softly_before(self, groups):
        """The ascending list of several groups and of those from which chains of "tau" lead to them.

        What is behind a group has lower numbers, so it comes first.
        """
        found = set()
        pending = list(groups)
        while pending:
            group = pending.pop()
            if group not in found:
                found.add(group)
                pending.extend(self._soft_sources[group])
        return sorted(found)

    def _marks_of(self, group):
        """For each action but "tau" the mark of the classes to which soft steps lead from a group."""
        marks = {}
        for action, target in self._condensed.others[group]:
            marks[action] = marks.get(action, 0) | self.silent[target]
        for target in self._condensed.softs[group]:
            for action, mark in self.loud[target].items():
                marks[action] = marks.get(action, 0) | mark
        return marks


class SoftClasses:
    """The soft classes of a system, beginning with round 0; raises TooLarge(2000)."""

    def __init__(self, system):
        if system.count > MOST_STATES:
            raise TooLarge(MOST_STATES)
        self.word = "might"
        self._condensed = Condensed(system)
        self._signer = SoftSigns(self._condensed)
        looping = {state: True for state in diverging(system)}
        self._labels = [states[0] in looping for states in self._condensed.groups]
        self.parting = Parting(self._labels, self._signer)

    def class_numbers(self):
        """The list of the numbers of the classes of all states."""
        return [self.parting.class_of[group] for group in self._condensed.group_of]

    def listed(self):
        """The list of the classes as ascending tuples, in the order of their least states."""
        found = {}
        for state, number in enumerate(self.class_numbers()):
            found.setdefault(number, []).append(state)
        return [tuple(states) for states in list(found.values())]

    def moves_of(self, number):
        """For each action the ascending list of the classes to which soft steps lead from a class.

        The classes no longer change.
        """
        group = self._group_in(number)
        moves = {"tau": marked(self._signer.silent[group])}
        for action, mark in self._signer.loud[group].items():
            moves[action] = marked(mark)
        return moves

    def loops_at(self, number):
        """Whether the states of a class diverge."""
        return self._labels[self._group_in(number)]

    def _group_in(self, number):
        """One group of a class; all of them do the same."""
        return list(self.parting.members[number])[0]
