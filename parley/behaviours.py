"""What systems do: their traces, their divergences, and what they offer where they are stable."""

from parley.errors import BadArgument, TooLarge


def closure(system, states):
    """The ascending tuple of the states, and of those to which chains of edges with "tau" lead from them."""
    found = set()
    pending = list(states)
    while pending:
        state = pending.pop()
        if state not in found:
            found.add(state)
            pending.extend(system.targets(state, "tau"))
    return tuple(sorted(found))


def after(system, states, action):
    """The closure of the states to which edges with an action lead from a tuple of states."""
    targets = []
    for state in states:
        targets.extend(system.targets(state, action))
    return closure(system, targets)


def states_after(system, trace):
    """The ascending tuple of the states after a trace."""
    states = closure(system, [0])
    for action in trace:
        states = after(system, states, action)
    return states


def is_trace(system, trace):
    """Whether a system has a trace."""
    return len(states_after(system, trace)) > 0


def stable_offers(system, trace):
    """The ascending list of the offers of the stable states after a trace, each once."""
    return offers_among(system, states_after(system, trace))


def offers_among(system, states):
    """The ascending list of the offers of those states that are stable, each once."""
    return sorted(set([system.offers(state) for state in states if system.is_stable(state)]))


def diverges(system, state):
    """Whether a chain of edges with "tau" without an end leads on from a state."""
    return len(diverging_among(system, closure(system, [state]))) > 0


def diverging(system):
    """The ascending tuple of all states that diverge."""
    return diverging_among(system, list(range(system.count)))


def diverging_among(system, states):
    """The tuple of those states that diverge; edges with "tau" from the states lead to them only."""
    many = {state: 0 for state in states}
    sources = {state: [] for state in states}
    for state in states:
        for target in system.targets(state, "tau"):
            many[state] += 1
            sources[target].append(state)
    # A state from which every chain ends has only edges to such states: they are taken out one by one.
    ending = [state for state in states if many[state] == 0]
    while ending:
        state = ending.pop()
        for source in sources[state]:
            many[source] -= 1
            if many[source] == 0:
                ending.append(source)
    return tuple([state for state in states if many[state] > 0])


def is_divergence(system, trace):
    """Whether some state after a trace diverges."""
    return len(diverging_among(system, states_after(system, trace))) > 0


def is_behaviour(system, behaviour):
    """Whether a system has a behaviour."""
    kind = behaviour[0]
    if kind == "trace":
        return is_trace(system, behaviour[1])
    if kind == "divergence":
        return is_divergence(system, behaviour[1])
    return behaviour[2] in stable_offers(system, behaviour[1])


def traces_up_to(system, length, *, limit=10000):
    """The list of all traces with at most so many actions, shorter ones first, and then ascending.

    Raises BadArgument for a negative length, and TooLarge(limit).
    """
    if length < 0:
        raise BadArgument("the length is negative")
    tracker = Tracker(system)
    check_many_traces(tracker, length, limit)
    found = []
    level = [((), tracker.start)]
    while level:
        found.extend([trace for trace, _ in level])
        is_last = len(level[0][0]) == length
        level = [] if is_last else longer_traces(tracker, level)
    return found


def longer_traces(tracker, level):
    """The pairs of a trace and its number that follow those of a list by one action."""
    found = []
    for trace, number in level:
        found.extend([(trace + (action,), target) for action, target in tracker.moves(number)])
    return found


def check_many_traces(tracker, length, limit):
    """Raises TooLarge(limit) if there are too many traces.

    They are counted before they are made: very long ones would fill the memory.
    """
    total = 0
    level = {tracker.start: 1}
    while level and length >= 0:
        total += sum(list(level.values()))
        if total > limit:
            raise TooLarge(limit)
        following = {}
        for number, many in level.items():
            for _, target in tracker.moves(number):
                following[target] = following.get(target, 0) + many
        level = following
        length -= 1


class Tracker:
    """Gives numbers to tuples of states of a system, and follows them from action to action."""

    def __init__(self, system):
        self.system = system
        self.tuples = []
        self._numbers = {}
        self._targets = {}
        self._moves = {}
        self.start = self.number(closure(system, [0]))

    def number(self, states):
        """The number of an ascending tuple of states."""
        if states not in self._numbers:
            self._numbers[states] = len(self.tuples)
            self.tuples.append(states)
        return self._numbers[states]

    def target(self, number, action):
        """The number of the states after an action."""
        if (number, action) not in self._targets:
            states = after(self.system, self.tuples[number], action)
            self._targets[(number, action)] = self.number(states)
        return self._targets[(number, action)]

    def moves(self, number):
        """The list of the pairs of an action that the states offer and the number behind it, ascending."""
        if number not in self._moves:
            actions = []
            for state in self.tuples[number]:
                actions.extend(self.system.offers(state))
            self._moves[number] = [(action, self.target(number, action)) for action in sorted(set(actions))]
        return self._moves[number]
