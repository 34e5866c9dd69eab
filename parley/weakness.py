"""Whether two systems are weakly equivalent."""

from parley.behaviours import diverging
from parley.condensing import Condensed
from parley.equivalence import joined
from parley.relating import answers_all, check_product, common_pairs, is_of_states, turned
from parley.softening import SoftClasses
from parley.telling import Teller

FEW = 20


def compare_weakly(first, second, *, limit=200000):
    """Whether two systems are weakly equivalent: ("same", relation) or ("different", sheet).

    Raises BadSystem, then TooLarge(limit), and then TooLarge(2000).
    """
    both = joined(first, second)
    check_product(first, second, limit)
    found = SoftClasses(both)
    found.parting.finish()
    numbers = found.class_numbers()
    start, other = numbers[0], numbers[first.count]
    if start == other:
        return ("same", common_pairs(numbers, first.count))
    return ("different", Teller(found.parting, found).sheet(start, other))


def is_weak_relation(first, second, relation):
    """Whether a list of pairs is a weak relation of two systems."""
    if not is_of_states(first, second, relation) or not is_true_to_divergence(first, second, relation):
        return False
    if not answers_all(first, relation, SoftAnswers(second)):
        return False
    return answers_all(second, turned(relation), SoftAnswers(first))


def is_true_to_divergence(first, second, relation):
    """Whether in each pair of states both of them diverge, or none."""
    looping = {state: True for state in diverging(first)}
    others = {state: True for state in diverging(second)}
    return all([(state in looping) == (other in others) for state, other in relation])


class SoftAnswers:
    """Answers by soft steps.

    They are looked for from place to place: a place is an action, which is still to be done, and a
    group of a condensed system. Behind the action it is "tau". No chain of places comes back to one.
    """

    def __init__(self, system):
        self._edges = {edge: True for edge in system.edges}
        self._condensed = Condensed(system)
        # For each number of a group of states what is known of places: whether steps lead into the group.
        self._known = {}

    def leads(self, state, action, number, group):
        """Whether a soft step with an action leads from a state into a group with a number."""
        if action == "tau" and state in group:
            return True
        # Single edges answer most often, and searching may go over all edges that leave a state.
        if len(group) <= FEW and any([(state, action, target) in self._edges for target in group]):
            return True
        known = self._known.setdefault(number, {})
        return self._search((action, self._condensed.group_of[state]), known, group)

    def _search(self, start, known, group):
        """Whether chains of places lead from a place into a group of states."""
        path = []
        pending = []
        self._enter(start, path, pending, known, group)
        while path:
            place = path[-1]
            if known.get(place, False):
                for passed in path:
                    known[passed] = True
                return True
            if place in known or not pending[-1]:
                known[place] = False
                path.pop()
                pending.pop()
            else:
                self._enter(pending[-1].pop(), path, pending, known, group)
        return False

    def _enter(self, place, path, pending, known, group):
        """Adds a place to a path, with the list of the places that follow it."""
        following = []
        if place not in known:
            if self._is_within(place, group):
                known[place] = True
            else:
                following = self._following(place)
        path.append(place)
        pending.append(following)

    def _is_within(self, place, group):
        """Whether nothing is left to be done at a place, and one of its states is in the group."""
        action, number = place
        if action != "tau":
            return False
        for state in self._condensed.groups[number]:
            if state in group:
                return True
        return False

    def _following(self, place):
        """The list of the places to which single edges lead."""
        action, number = place
        found = [(action, target) for target in self._condensed.softs[number]]
        for word, target in self._condensed.others[number]:
            if word == action:
                found.append(("tau", target))
        return found
