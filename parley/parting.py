"""Parting the states of a system into classes, round by round."""


class Parting:
    """Classes of states; in round 0 those with equal labels are together.

    A class that is parted keeps its number for its largest part, and the states of the other parts
    move to new classes. So only edges that lead to moved states have to be looked at in the next
    round, and no state moves often.
    """

    def __init__(self, count, edges, labels):
        self.rounds = 0
        self.class_of = []
        # For each class a dict whose keys are its states.
        self.members = []
        self._sources = [[] for _ in range(count)]
        for source, action, target in edges:
            self._sources[target].append((source, action))
        # How many edges with an action lead from a state to a class.
        self._many = {}
        # The states that moved in the last round, with the classes in which they were before.
        self._moved = [(state, -1) for state in range(count)]
        self._place(labels)

    def advance(self):
        """Goes on by one round and returns True; returns False if it would change nothing."""
        touched = self._touched()
        groups = {}
        for state in touched:
            if len(self.members[self.class_of[state]]) > 1:
                groups.setdefault(self.class_of[state], []).append((state, self._now(state, touched[state])))
        self._moved = []
        for number in groups:
            self._part(number, groups[number])
        if not self._moved:
            return False
        self.rounds += 1
        return True

    def advance_to(self, rounds):
        """Goes on to the round with a number, or until nothing changes any more."""
        while self.rounds < rounds and self.advance():
            pass

    def finish(self):
        """Goes on until nothing changes any more."""
        while self.advance():
            pass

    def listed(self):
        """The list of the classes as ascending tuples, in the order of their least states."""
        return sorted([tuple(sorted(members)) for members in self.members])

    def _place(self, labels):
        """Puts the states into the classes of round 0."""
        numbers = {}
        for state, label in enumerate(labels):
            if label not in numbers:
                numbers[label] = len(self.members)
                self.members.append({})
            self.members[numbers[label]][state] = True
            self.class_of.append(numbers[label])

    def _touched(self):
        """The states with edges to moved states, with dicts of the actions and classes concerned."""
        touched = {}
        for state, before in self._moved:
            now = self.class_of[state]
            for source, action in self._sources[state]:
                concerned = touched.setdefault(source, {})
                concerned[(action, now)] = True
                self._many[(source, action, now)] = self._many.get((source, action, now), 0) + 1
                if before >= 0:
                    concerned[(action, before)] = True
                    self._take_one(source, action, before)
        return touched

    def _take_one(self, source, action, number):
        """Counts one edge less from a state to a class."""
        key = (source, action, number)
        self._many[key] -= 1
        if self._many[key] == 0:
            del self._many[key]

    def _now(self, state, concerned):
        """Those of the actions and classes to which edges lead from the state now."""
        pairs = [(action, number) for action, number in concerned if (state, action, number) in self._many]
        return tuple(sorted(pairs))

    def _part(self, number, rows):
        """Parts a class by what its touched states have now; the others are still alike."""
        groups = {}
        for state, now in rows:
            groups.setdefault(now, []).append(state)
        moving = sorted(list(groups.values()), key=len)
        many_others = len(self.members[number]) - len(rows)
        if many_others < len(moving[-1]):
            moving.pop()
            if many_others > 0:
                moving.append(self._others(number, rows))
        for states in moving:
            self._move(number, states)

    def _others(self, number, rows):
        """The states of a class that are not in the rows."""
        known = {state: True for state, _ in rows}
        return [state for state in self.members[number] if state not in known]

    def _move(self, number, states):
        """Moves states from a class to a new one."""
        for state in states:
            del self.members[number][state]
            self.class_of[state] = len(self.members)
            self._moved.append((state, number))
        self.members.append({state: True for state in states})
