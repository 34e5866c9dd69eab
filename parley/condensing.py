"""Condensing a system: groups of states between which chains of edges with "tau" lead both ways."""


class Condensed:
    """The groups of the states of a system, and the edges between them.

    Soft steps lead from all states of a group to the same states. Edges with "tau" lead from a
    group to itself and to groups with lower numbers only.
    """

    def __init__(self, system):
        self.group_of = [-1] * system.count
        self.groups = []
        self._pending = [system.targets(state, "tau") for state in range(system.count)]
        # When a state was entered, and the earliest of the entered states to which it leads back.
        self._entered = [-1] * system.count
        self._earliest = [-1] * system.count
        self._many_entered = 0
        # The entered states whose groups are not known yet.
        self._waiting = []
        for state in range(system.count):
            if self._entered[state] < 0:
                self._search(state)
        # For each group the groups to which edges with "tau" lead, without itself, and the pairs
        # of another action and a group.
        self.softs = [[] for _ in self.groups]
        self.others = [[] for _ in self.groups]
        self._add_edges(system)

    def _add_edges(self, system):
        edges = [(self.group_of[source], action, self.group_of[target]) for source, action, target in system.edges]
        for source, action, target in sorted(set(edges)):
            if action != "tau":
                self.others[source].append((action, target))
            elif source != target:
                self.softs[source].append(target)

    def _search(self, start):
        """Finds the groups of the states to which chains of edges with "tau" lead from a state."""
        path = [start]
        self._enter(start)
        while path:
            state = path[-1]
            if self._pending[state]:
                target = self._pending[state].pop()
                if self._entered[target] < 0:
                    path.append(target)
                    self._enter(target)
                elif self.group_of[target] < 0:
                    self._earliest[state] = min(self._earliest[state], self._entered[target])
            else:
                path.pop()
                self._leave(state)
                if path:
                    self._earliest[path[-1]] = min(self._earliest[path[-1]], self._earliest[state])

    def _enter(self, state):
        self._entered[state] = self._many_entered
        self._earliest[state] = self._many_entered
        self._many_entered += 1
        self._waiting.append(state)

    def _leave(self, state):
        """Makes a group if no later state leads back to a state before this one."""
        if self._earliest[state] < self._entered[state]:
            return
        members = []
        while self.group_of[state] < 0:
            member = self._waiting.pop()
            self.group_of[member] = len(self.groups)
            members.append(member)
        self.groups.append(members)
