"""A small checker for what is shown of refinements."""

from parley.behaviours import Tracker, diverging, is_behaviour, offers_among
from parley.models import check_model, has_part, looks_at
from parley.refining import allows


def is_difference(first, second, model, behaviour):
    """Whether a behaviour of the second system is one that the first one does not allow.

    Raises UnknownModel.
    """
    check_model(model)
    is_seen = looks_at(model, behaviour[0])
    return is_seen and is_behaviour(second, behaviour) and not allows(first, behaviour, model)


def is_certificate(first, second, model, certificate):
    """Whether a list of pairs is a certificate of a refinement; raises UnknownModel."""
    check_model(model)
    if not is_ascending(certificate) or not all([0 <= state < second.count for state, _ in certificate]):
        return False
    check = CertificateCheck(first, second, model, certificate)
    return check.are_tuples_of_states() and check.has_start() and check.is_closed()


def is_ascending(row):
    """Whether each item of a list or tuple is less than the next one."""
    return all([row[at] < row[at + 1] for at in range(len(row) - 1)])


class CertificateCheck:
    """Checks the pairs of a certificate, whose tuples of states get numbers."""

    def __init__(self, first, second, model, certificate):
        self._first = first
        self._second = second
        self._model = model
        self._tracker = Tracker(first)
        self._pairs = {(state, self._tracker.number(states)): True for state, states in certificate}
        is_strict = model == "divergences"
        self._hanging = {state: True for state in diverging(first)} if is_strict else {}
        self._faulty = {state: True for state in diverging(second)} if is_strict else {}

    def are_tuples_of_states(self):
        """Whether all tuples are ascending tuples of states of the first system."""
        for states in self._tracker.tuples:
            if not is_ascending(states):
                return False
            if states and not 0 <= states[0] <= states[-1] < self._first.count:
                return False
        return True

    def has_start(self):
        """Whether the start is among the pairs."""
        return (0, self._tracker.start) in self._pairs

    def is_closed(self):
        """Whether the certificate has all that it needs for each of its pairs."""
        groups = {}
        for state, number in self._pairs:
            groups.setdefault(number, []).append(state)
        return all([self._is_open(number) or self._fit(number, groups[number]) for number in groups])

    def _is_open(self, number):
        """Whether the pairs with these states of the first system are open."""
        return any([state in self._hanging for state in self._tracker.tuples[number]])

    def _fit(self, number, states):
        """Whether states of the second system do only what these states of the first system allow."""
        if any([state in self._faulty for state in states]):
            return False
        if self._model != "traces":
            allowed = offers_among(self._first, self._tracker.tuples[number])
            for offers in offers_among(self._second, states):
                if not has_part(allowed, offers):
                    return False
        return all([self._has_following(number, state) for state in states])

    def _has_following(self, number, state):
        """Whether all that follows a pair is among the pairs."""
        for action, target in self._second.leaving(state):
            following = number if action == "tau" else self._tracker.target(number, action)
            if self._tracker.tuples[following] == () and action != "tau":
                return False
            if (target, following) not in self._pairs:
                return False
        return True
