"""Parting states into classes, round by round."""


class Parting:
    """Classes of states; in round 0 those with equal labels are together.

    The object `signer` says what states do: `signer.touch(moved, class_of)` gives the list of those
    that do something else after states have moved to other classes, and `signer.sign(state)` gives
    what such a state does now. A class that is parted keeps its number for its largest part, and
    the states of the other parts move to new classes. So no state moves often.
    """

    def __init__(self, labels, signer):
        self.rounds = 0
        self.class_of = []
        # For each class a dict whose keys are its states.
        self.members = []
        # For each class the number of the class from which it was parted, and the round of that.
        self.origins = []
        self._signer = signer
        # The states that moved in the last round, with the classes in which they were before.
        self._moved = [(state, -1) for state in range(len(labels))]
        self._place(labels)

    def advance(self):
        """Goes on by one round and returns True; returns False if it would change nothing."""
        touched = self._signer.touch(self._moved, self.class_of)
        groups = {}
        for state in touched:
            if len(self.members[self.class_of[state]]) > 1:
                groups.setdefault(self.class_of[state], []).append((state, self._signer.sign(state)))
        self._moved = []
        for number in groups:
            self._part(number, groups[number])
        if not self._moved:
            return False
        self.rounds += 1
        return True

    def advance_to(self, rounds):
        """Goes on to the round with a number, or until nothing changes any more."""
        while self.rounds < rounds and self.advance():
            pass

    def finish(self):
        """Goes on until nothing changes any more."""
        while self.advance():
            pass

    def listed(self):
        """The list of the classes as ascending tuples, in the order of their least states."""
        return sorted([tuple(sorted(members)) for members in self.members])

    def class_after(self, number, step):
        """The number that a class had in an earlier round, when it may have been larger."""
        while self.origins[number][1] > step:
            number = self.origins[number][0]
        return number

    def parted(self, first, second):
        """The round in which two classes were parted, and the numbers that they had in it."""
        step = 0
        numbers = (first, second)
        # A class has a greater number than the one from which it was parted.
        while numbers[0] != numbers[1]:
            before, step = self.origins[max(numbers)]
            numbers = (before, min(numbers))
        return (step, self.class_after(first, step), self.class_after(second, step))

    def _place(self, labels):
        """Puts the states into the classes of round 0."""
        numbers = {}
        for state, label in enumerate(labels):
            if label not in numbers:
                numbers[label] = len(self.members)
                self._add_class(-1, 0)
            self.members[numbers[label]][state] = True
            self.class_of.append(numbers[label])

    def _add_class(self, before, step):
        self.members.append({})
        self.origins.append((before, step))

    def _part(self, number, rows):
        """Parts a class by what its touched states do now; the others are still alike."""
        groups = {}
        for state, now in rows:
            groups.setdefault(now, []).append(state)
        moving = sorted(list(groups.values()), key=len)
        many_others = len(self.members[number]) - len(rows)
        if many_others < len(moving[-1]):
            moving.pop()
            if many_others > 0:
                moving.append(self._others(number, rows))
        for states in moving:
            self._move(number, states)

    def _others(self, number, rows):
        """The states of a class that are not in the rows."""
        known = {state: True for state, _ in rows}
        return [state for state in self.members[number] if state not in known]

    def _move(self, number, states):
        """Moves states from a class to a new one."""
        target = len(self.members)
        self._add_class(number, self.rounds + 1)
        for state in states:
            del self.members[number][state]
            self.members[target][state] = True
            self.class_of[state] = target
            self._moved.append((state, number))


class EdgeSigns:
    """What states do by single edges: the actions, and the classes to which they lead."""

    def __init__(self, count, edges):
        self._sources = [[] for _ in range(count)]
        for source, action, target in edges:
            self._sources[target].append((source, action))
        # How many edges with an action lead from a state to a class.
        self._many = {}
        # For each touched state a dict of the actions and classes that have to be looked at.
        self._concerned = {}

    def touch(self, moved, class_of):
        """The list of the states with edges to moved states."""
        touched = {}
        for state, before in moved:
            now = class_of[state]
            for source, action in self._sources[state]:
                concerned = touched.setdefault(source, {})
                concerned[(action, now)] = True
                self._many[(source, action, now)] = self._many.get((source, action, now), 0) + 1
                if before >= 0:
                    concerned[(action, before)] = True
                    self._take_one(source, action, before)
        self._concerned = touched
        return list(touched)

    def sign(self, state):
        """Those of the actions and classes that have to be looked at to which edges lead now."""
        concerned = self._concerned[state]
        pairs = [(action, number) for action, number in concerned if (state, action, number) in self._many]
        return tuple(sorted(pairs))

    def _take_one(self, source, action, number):
        """Counts one edge less from a state to a class."""
        key = (source, action, number)
        self._many[key] -= 1
        if self._many[key] == 0:
            del self._many[key]


def parted_by_edges(count, edges, labels):
    """The classes, no longer changing, of states with edges and with labels in round 0."""
    parting = Parting(labels, EdgeSigns(count, edges))
    parting.finish()
    return parting
