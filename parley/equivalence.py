"""Whether two systems are strongly equivalent."""

from parley.classes import strong_parting
from parley.relating import EdgeAnswers, answers_all, check_product, common_pairs, is_of_states, turned
from parley.systems import System
from parley.telling import Teller


def joined(first, second):
    """The system that consists of the states of both; raises BadSystem if there are too many."""
    many = first.count
    moved = [(source + many, action, target + many) for source, action, target in second.edges]
    return System(many + second.count, list(first.edges) + moved)


def compare_strongly(first, second, *, limit=200000):
    """Whether two systems are strongly equivalent: ("same", relation) or ("different", sheet).

    Raises BadSystem, and then TooLarge(limit).
    """
    both = joined(first, second)
    check_product(first, second, limit)
    parting = strong_parting(both)
    parting.finish()
    start, other = parting.class_of[0], parting.class_of[first.count]
    if start == other:
        return ("same", common_pairs(parting.class_of, first.count))
    teller = Teller(parting, EdgeMoves(both, parting))
    return ("different", teller.sheet(start, other))


class EdgeMoves:
    """What classes of strongly equivalent states do; all of them are together in round 0."""

    def __init__(self, system, parting):
        self.word = "can"
        self._system = system
        self._parting = parting
        # Equivalent states do the same, so any of them stands for its class.
        self._chosen = {number: state for state, number in enumerate(parting.class_of)}

    def moves_of(self, number):
        """For each action the ascending list of the classes to which edges lead from a class."""
        leaving = self._system.leaving(self._chosen[number])
        moves = [(action, self._parting.class_of[target]) for action, target in leaving]
        found = {}
        for action, target in sorted(set(moves)):
            found.setdefault(action, []).append(target)
        return found


def is_strong_relation(first, second, relation):
    """Whether a list of pairs is a strong relation of two systems."""
    if not is_of_states(first, second, relation):
        return False
    if not answers_all(first, relation, EdgeAnswers(second)):
        return False
    return answers_all(second, turned(relation), EdgeAnswers(first))
