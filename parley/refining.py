"""Whether one system refines another one."""

from parley.behaviours import Tracker, after, closure, diverging, is_trace, offers_among, stable_offers
from parley.errors import TooLarge
from parley.models import check_model, has_part, smallest_offers
from parley.searching import targets_by_action, trace_of_group

KINDS = ("trace", "divergence", "failure")


def allows(system, behaviour, model):
    """Whether a system allows a behaviour in a model; raises UnknownModel."""
    check_model(model)
    kind = behaviour[0]
    trace = behaviour[1]
    if model == "divergences" and may_hang(system, trace):
        return True
    if kind == "trace":
        return is_trace(system, trace)
    return kind == "failure" and has_part(stable_offers(system, trace), behaviour[2])


def may_hang(system, trace):
    """Whether a trace or a beginning of it is a divergence of a system."""
    hanging = {state: True for state in diverging(system)}
    states = closure(system, [0])
    for action in trace:
        if any([state in hanging for state in states]):
            return True
        states = after(system, states, action)
    return any([state in hanging for state in states])


def order_key(behaviour):
    """A tuple; keys are compared as the behaviours are ordered."""
    kind = behaviour[0]
    trace = behaviour[1]
    offers = behaviour[2] if kind == "failure" else ()
    return (len(trace), trace, KINDS.index(kind), len(offers), offers)


def refines(first, second, model, *, limit=20000):
    """Whether the second system refines the first one: ("yes", certificate) or ("no", behaviour).

    Raises UnknownModel, and then TooLarge(limit).
    """
    check_model(model)
    search = PairSearch(first, second, model, limit)
    at = 0
    while at < len(search.groups):
        search.go_on(at)
        at += 1
    # The groups are in the order of their traces, so the first fault is the least one.
    for index in range(len(search.groups)):
        fault = search.fault(index)
        if fault != ():
            return ("no", (fault[0], trace_of_group(search.groups, index)) + fault[1:])
    tuples = search.tracker.tuples
    return ("yes", sorted([(state, tuples[number]) for state, number in search.pairs]))


class PairSearch:
    """Finds the pairs of two systems in groups.

    A group has the pairs whose least trace is the same, so their states of the first system are the
    same, too. It is a tuple of the number of these states, the states of the second system, the
    group before, and the action that leads from that group to this one. Where the first system has
    no states after the action, no pair follows: the group then shows only that the trace is a fault.
    """

    def __init__(self, first, second, model, limit):
        self.tracker = Tracker(first)
        self.pairs = {}
        self.groups = []
        self._first = first
        self._second = second
        self._model = model
        self._limit = limit
        is_strict = model == "divergences"
        self._hanging = {state: True for state in diverging(first)} if is_strict else {}
        self._faulty = {state: True for state in diverging(second)} if is_strict else {}
        self._openness = {}
        self._smallest = {}
        self._add_group(self.tracker.start, [0], 0, "")

    def go_on(self, at):
        """Adds the groups that follow a group."""
        number, states, _, _ = self.groups[at]
        if self.is_open(number):
            return
        targets = targets_by_action(states, lambda state: self._second.leaving(state))
        for action in sorted(targets):
            self._add_group(self.tracker.target(number, action), targets[action], at, action)

    def is_open(self, number):
        """Whether the pairs with these states of the first system are open."""
        if number not in self._openness:
            states = self.tracker.tuples[number]
            self._openness[number] = any([state in self._hanging for state in states])
        return self._openness[number]

    def fault(self, at):
        """The kind, and perhaps the offers, of the least behaviour at a group that is not allowed.

        The empty tuple if there is none.
        """
        number, states, _, _ = self.groups[at]
        if self.is_open(number):
            return ()
        if self.tracker.tuples[number] == ():
            return ("trace",)
        if any([state in self._faulty for state in states]):
            return ("divergence",)
        if self._model == "traces":
            return ()
        refused = [row for row in offers_among(self._second, states) if not self._allows_offers(number, row)]
        return ("failure", min(refused, key=lambda row: (len(row), row))) if refused else ()

    def _add_group(self, number, targets, before, action):
        if self.tracker.tuples[number] == ():
            self.groups.append((number, [], before, action))
            return
        states = self._new_states(number, targets)
        if len(self.pairs) > self._limit:
            raise TooLarge(self._limit)
        if states:
            self.groups.append((number, states, before, action))

    def _new_states(self, number, targets):
        """The states that make new pairs, from the targets of edges and along edges with "tau"."""
        found = []
        pending = list(targets)
        while pending:
            state = pending.pop()
            if (state, number) not in self.pairs:
                self.pairs[(state, number)] = True
                found.append(state)
                if not self.is_open(number):
                    pending.extend(self._second.targets(state, "tau"))
        return found

    def _allows_offers(self, number, offers):
        """Whether some of these states of the first system is stable and offers nothing else."""
        if number not in self._smallest:
            rows = smallest_offers(offers_among(self._first, self.tracker.tuples[number]))
            self._smallest[number] = {row: True for row in rows}
        smallest = self._smallest[number]
        return offers in smallest or has_part(smallest, offers)
