"""Whether one system simulates another one."""

from parley.relating import EdgeAnswers, answers_all, check_product, is_of_states, turned
from parley.telling import sheet_of_plans


def simulates(first, second, *, limit=200000):
    """Whether the first system simulates the second one: ("yes", pairs) or ("no", sheet).

    Raises TooLarge(limit).
    """
    check_product(first, second, limit)
    search = Striking(first, second)
    search.finish()
    struck = search.struck
    if (0, 0) in struck:
        return ("no", sheet_of_plans(search.plans()))
    pairs = [(state, other) for state in range(first.count) for other in range(second.count)]
    return ("yes", [pair for pair in pairs if pair not in struck])


def struck_in(first, second, *, limit=200000):
    """A dict with the round in which each pair is struck, for those that are; raises TooLarge(limit)."""
    check_product(first, second, limit)
    search = Striking(first, second)
    search.finish()
    return {pair: search.struck[pair] for pair in search.struck}


def is_simulation(first, second, pairs):
    """Whether a list of pairs is a simulation."""
    return is_of_states(first, second, pairs) and answers_all(second, turned(pairs), EdgeAnswers(first))


class Striking:
    """Strikes pairs of states round by round.

    An edge of the second system can be answered at a state of the first one as long as some edge of
    it with the same action leads to a state that is not struck together with the target. Several
    states of the first system are looked at as a mark: an integer with one bit for each of them.
    """

    def __init__(self, first, second):
        # For each struck pair the round.
        self.struck = {}
        self._first = first
        # For each struck pair the edge that could not be answered: its action and its target.
        self._reasons = {}
        # The marks of the targets of the edges with an action from a state, and the edges to each state.
        self._behind = {}
        self._sources = [[] for _ in range(first.count)]
        for source, action, target in first.edges:
            self._behind[(source, action)] = self._behind.get((source, action), 0) | 1 << target
            self._sources[target].append((source, action))
        # For each action a dict that has for each state that does it one of the targets, and for
        # each target and action the sources.
        self._doing = {}
        self._asking = {}
        for source, action, target in second.edges:
            self._doing.setdefault(action, {})[source] = target
            self._asking.setdefault((target, action), []).append(source)
        # For each state of the second system the mark of the states that were left with it in the
        # last round, and for each state of the first system how many are left with it now.
        self._left = [(1 << first.count) - 1] * second.count
        self._many_left = [second.count] * first.count

    def finish(self):
        """Strikes pairs until none is struck any more."""
        step = 1
        new = self._first_round()
        while new:
            step += 1
            new = self._next_round(step, new)

    def plans(self):
        """The plans of the formulas that tell the start of the second system from that of the first one.

        The key of a formula is a pair of states behind the round in which the pair was struck; the
        formula holds at the state of the second system, and not at that of the first one.
        """
        found = {}
        pending = [self._key((0, 0))]
        while pending:
            key = pending.pop()
            if key not in found:
                _, state, other = key
                action, target = self._reasons[(state, other)]
                inner = [self._key((answer, target)) for answer in self._first.targets(state, action)]
                found[key] = (False, ("can", action), inner)
                pending.extend(inner)
        return found

    def _key(self, pair):
        return (self.struck[pair], *pair)

    def _first_round(self):
        """Strikes the pairs in which the first system does not do an action of the second one."""
        new = []
        for state in range(self._first.count):
            for action in self._doing:
                if (state, action) not in self._behind:
                    for other, target in self._doing[action].items():
                        self._strike(1, (state, other), (action, target), new)
        return new

    def _next_round(self, step, pairs):
        """Strikes pairs since others were struck in the round before."""
        concerned = {}
        for state, other in pairs:
            self._left[other] -= 1 << state
            concerned.setdefault(other, []).append(state)
        new = []
        for other in concerned:
            for source, action in self._sources_of(concerned[other]):
                asking = self._asking.get((other, action), [])
                if asking and self._many_left[source] > 0 and self._behind[(source, action)] & self._left[other] == 0:
                    for asker in asking:
                        self._strike(step, (source, asker), (action, other), new)
        return new

    def _sources_of(self, states):
        """The list of the states and actions of edges that lead to some states, and perhaps of others.

        Where there are very many such edges, all states and actions are no more.
        """
        if sum([len(self._sources[state]) for state in states]) >= len(self._behind):
            return list(self._behind)
        return list({row: True for state in states for row in self._sources[state]})

    def _strike(self, step, pair, reason, new):
        if pair not in self.struck:
            self.struck[pair] = step
            self._many_left[pair[0]] -= 1
            self._reasons[pair] = reason
            new.append(pair)
