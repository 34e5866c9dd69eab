"""Searching a system in the order of its traces: shorter ones first, those of one length ascending."""

from parley.behaviours import closure


def least_trace(start, edges_of, is_sought):
    """The least trace along which edges lead from a place to one that is sought, or None.

    The function `edges_of` gives the list of the pairs of an action and a place that follow a place.
    Places with the same least trace make a group: a tuple of the list of them, the group before,
    and the action that leads from that group to this one.
    """
    found = {}
    groups = [(new_places([start], edges_of, found), 0, "")]
    at = 0
    while at < len(groups):
        if any([is_sought(place) for place in groups[at][0]]):
            return trace_of_group(groups, at)
        targets = targets_by_action(groups[at][0], edges_of)
        for action in sorted(targets):
            places = new_places(targets[action], edges_of, found)
            if places:
                groups.append((places, at, action))
        at += 1
    return None


def new_places(places, edges_of, found):
    """Those of some places, and of what chains of "tau" lead to, that are not found yet; now they are."""
    new = []
    pending = list(places)
    while pending:
        place = pending.pop()
        if place not in found:
            found[place] = True
            new.append(place)
            pending.extend([target for action, target in edges_of(place) if action == "tau"])
    return new


def targets_by_action(places, edges_of):
    """A dict that has for each action but "tau" the list of the places to which edges lead."""
    targets = {}
    for place in places:
        for action, target in edges_of(place):
            if action != "tau":
                targets.setdefault(action, []).append(target)
    return targets


def trace_of_group(groups, at):
    """The trace of a group, whose last items are the group before and the action that leads here."""
    actions = []
    while at > 0:
        before, action = groups[at][-2:]
        actions.append(action)
        at = before
    return tuple(reversed(actions))


def least_clash(system):
    """The least trace, and the least action, such that a state after the trace does the action and
    a stable state after it does not; or None.

    States after one trace are taken to do the same, until they are seen not to.
    """
    search = ClashSearch(system)
    at = 0
    while at < len(search.groups):
        action = search.clash(at)
        if action != "":
            return (trace_of_group(search.groups, at), action)
        search.go_on(at)
        at += 1
    return None


class ClashSearch:
    """Finds groups of states after one trace, and joins them to kins: what should do the same.

    If of two states of a kin one does what the other one refuses, then so it is for two states that
    were joined directly, at a trace that is not greater. So it is enough to follow, from a trace,
    one state of each kin that is joined there. There are hardly more such groups than states.

    A group is a tuple of the states that are followed and of what chains of "tau" lead to from them,
    the group before, and the action that leads from that group to this one.
    """

    def __init__(self, system):
        self.groups = []
        self._system = system
        # A state leads to another one of its kin, but for one of them, which leads to itself.
        self._leader = [-1] * system.count
        self._add_group(closure(system, [0]), 0, "")

    def clash(self, at):
        """The least action that a state of a group does and a stable state refuses, or the empty text."""
        states, _, _ = self.groups[at]
        rows = [self._system.offers(state) for state in states]
        done = {action: True for row in rows for action in row}
        least = ""
        for state, row in zip(states, rows):
            if len(row) < len(done) and self._system.is_stable(state):
                missing = min([action for action in done if action not in row])
                least = missing if least == "" else min(least, missing)
        return least

    def go_on(self, at):
        """Adds the groups that follow a group."""
        states, _, _ = self.groups[at]
        targets = targets_by_action(states, lambda state: self._system.leaving(state))
        for action in sorted(targets):
            self._add_group(closure(self._system, targets[action]), at, action)

    def _add_group(self, states, before, action):
        chosen = self._joined(states)
        if chosen:
            self.groups.append((closure(self._system, chosen), before, action))

    def _joined(self, states):
        """Joins states after one trace; gives one state of each kin that was joined, and the new ones.

        The empty list if all of them were of one kin before.
        """
        chosen = []
        leaders = {}
        for state in states:
            is_new = self._leader[state] < 0
            if is_new:
                self._leader[state] = state
            leader = self._find(state)
            if is_new or leader not in leaders:
                chosen.append(state)
            leaders[leader] = is_new
        if not any(list(leaders.values())) and len(leaders) < 2:
            return []
        first = self._find(states[0])
        for leader in leaders:
            self._leader[leader] = first
        return chosen

    def _find(self, state):
        """The state of a kin that leads to itself; ways to it are made shorter."""
        while self._leader[state] != state:
            self._leader[state] = self._leader[self._leader[state]]
            state = self._leader[state]
        return state
