"""Trying systems with tests."""

from parley.combining import paired
from parley.errors import BadArgument
from parley.systems import MOST_STATES, System

PASS = "pass"


def trial(system, test):
    """The system of the pairs of a trial; raises BadArgument, and then TooLarge(20000)."""
    tried, _ = tried_pairs(system, test)
    return tried


def tried_pairs(system, test):
    """The system of the pairs of a trial, and the list of the pairs."""
    check_fit(system)
    silent = System(test.count, [edge for edge in test.edges if edge[1] != PASS])
    return paired(system, silent, sorted(set(system.events() + silent.events())), MOST_STATES)


def check_fit(system):
    """Raises BadArgument if a system cannot be tried."""
    if PASS in system.events():
        raise BadArgument("the system has the event pass")


def good_states(test):
    """A dict whose keys are the good states of a test."""
    return {source: True for source, action, _ in test.edges if action == PASS}


def may_pass(system, test):
    """Whether some run is good; raises what `trial` raises."""
    _, pairs = tried_pairs(system, test)
    good = good_states(test)
    return any([state in good for _, state in pairs])


def must_pass(system, test):
    """Whether every complete run is good; raises what `trial` raises."""
    return failing(system, test) is None


def failing(system, test):
    """What shows that a system need not pass a test, or None; raises what `trial` raises."""
    tried, pairs = tried_pairs(system, test)
    good = good_states(test)
    bad = [state not in good for _, state in pairs]
    if not bad[0]:
        return None
    ends = [not tried.leaving(number) for number in range(tried.count)]
    path = [0]
    pending = [targets_of(tried, 0)]
    # All complete runs from pairs that are known, but not on the path, are good.
    known = {0: True}
    places = {0: 0}
    while path:
        if ends[path[-1]]:
            return (tuple([pairs[number] for number in path]), None)
        if not pending[-1]:
            pending.pop()
            number = path.pop()
            del places[number]
        else:
            number = pending[-1].pop()
            if number in places:
                return (tuple([pairs[other] for other in path]), places[number])
            if bad[number] and number not in known:
                known[number] = True
                places[number] = len(path)
                path.append(number)
                pending.append(targets_of(tried, number))
    return None


def targets_of(tried, number):
    """The list of the numbers of the pairs that follow a pair, the least one last."""
    return list(reversed(sorted(set([target for _, target in tried.leaving(number)]))))


def is_failing(system, test, shown):
    """Whether a tuple of pairs shows that a system need not pass a test; raises BadArgument."""
    check_fit(system)
    pairs, back = shown
    good = good_states(test)
    if len(pairs) == 0 or pairs[0] != (0, 0):
        return False
    for state, other in pairs:
        if not (0 <= state < system.count and 0 <= other < test.count) or other in good:
            return False
    trying = Trying(system, test)
    if not all([trying.leads(pairs[at], pairs[at + 1]) for at in range(len(pairs) - 1)]):
        return False
    if back is None:
        return trying.ends(pairs[-1])
    return 0 <= back < len(pairs) and trying.leads(pairs[-1], pairs[back])


class Trying:
    """The edges between the pairs of a trial, which may have very many pairs."""

    def __init__(self, system, test):
        self._system = system
        self._test = test
        self._edges = {edge: True for edge in test.edges}
        # For two states of the system the actions with which edges lead from the first to the second one.
        self._actions = {}
        for source, action, target in system.edges:
            self._actions.setdefault((source, target), []).append(action)

    def leads(self, pair, following):
        """Whether an edge leads from one pair to another one."""
        state, other = pair
        target, partner = following
        actions = self._actions.get((state, target), [])
        if "tau" in actions and other == partner:
            return True
        if state == target and (other, "tau", partner) in self._edges:
            return True
        return any([action != "tau" and (other, action, partner) in self._edges for action in actions])

    def ends(self, pair):
        """Whether no edge leaves a pair."""
        state, other = pair
        if not self._system.is_stable(state) or not self._test.is_stable(other):
            return False
        offered = {action: True for action in self._test.offers(other)}
        return not any([action in offered for action in self._system.offers(state)])


def test_of(first, behaviour):
    """The test of a behaviour against a first system; raises BadArgument."""
    trace = behaviour[1]
    offers = behaviour[2] if behaviour[0] == "failure" else ()
    if PASS in first.events() or PASS in trace or PASS in offers:
        raise BadArgument("the event pass stands in the system or in the behaviour")
    many = len(trace)
    edges = [(many + 1, PASS, many + 1)]
    for index, action in enumerate(trace):
        edges.append((index, action, index + 1))
        edges.append((index, "tau", many + 1))
    if behaviour[0] == "divergence":
        edges.append((many, "tau", many + 1))
    if behaviour[0] == "failure":
        known = {action: True for action in offers}
        missing = [action for action in first.events() + ("tick",) if action not in known]
        edges.extend([(many, action, many + 1) for action in missing])
    return System(many + 2, edges)
