"""Systems of numbered states and edges."""

from parley.errors import BadArgument, BadSystem
from parley.numbering import numbered
from parley.processes import is_event

MOST_STATES = 20000


def is_action(word):
    """Whether a string is an event, "tau" or "tick"."""
    return is_event(word) or word in ("tau", "tick")


class System:
    """A number of states, of which 0 is the start, and edges between them."""

    def __init__(self, count, edges):
        check_edges(count, edges)
        self.count = count
        self.edges = tuple(sorted(set(edges)))
        self._leaving = [[] for _ in range(count)]
        self._targets = {}
        for source, action, target in self.edges:
            self._leaving[source].append((action, target))
            self._targets.setdefault((source, action), []).append(target)

    def __eq__(self, other):
        return isinstance(other, System) and self.count == other.count and self.edges == other.edges

    def leaving(self, state):
        """The ascending list of the pairs of an action and a state of the edges that leave a state."""
        self._check_state(state)
        return list(self._leaving[state])

    def targets(self, state, action):
        """The ascending list of the states to which the edges with an action lead from a state."""
        self._check_state(state)
        return list(self._targets.get((state, action), []))

    def offers(self, state):
        """The ascending tuple of the actions of the edges that leave a state, without "tau"."""
        self._check_state(state)
        return tuple(sorted(set([action for action, _ in self._leaving[state] if action != "tau"])))

    def is_stable(self, state):
        """Whether no edge with "tau" leaves a state."""
        self._check_state(state)
        return (state, "tau") not in self._targets

    def events(self):
        """The ascending tuple of the events of all edges."""
        return tuple(sorted(set([action for _, action, _ in self.edges if action not in ("tau", "tick")])))

    def _check_state(self, state):
        if not 0 <= state < self.count:
            raise BadArgument("there is no such state")


def check_edges(count, edges):
    """Raises BadSystem if a system cannot have these numbers of states and edges."""
    if not 1 <= count <= MOST_STATES:
        raise BadSystem("the number of states is out of range")
    for source, _, target in edges:
        if not (0 <= source < count and 0 <= target < count):
            raise BadSystem("an edge has a state that there is not")
    for action in sorted(set([action for _, action, _ in edges])):
        if not is_action(action):
            raise BadSystem("an edge has an action that there is not")


def reached(system):
    """The system of the states to which edges lead from the start, numbered anew."""
    states, edges = numbered(0, lambda state: system.leaving(state), system.count)
    return System(len(states), edges)
