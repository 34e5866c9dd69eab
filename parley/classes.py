"""The classes of strongly equivalent states."""

from parley.errors import BadArgument
from parley.numbering import numbered
from parley.parting import EdgeSigns, Parting
from parley.systems import System, reached


def classes_after(system, step):
    """The classes of the round with a number, in the order of their least states.

    Raises BadArgument for a negative number.
    """
    if step < 0:
        raise BadArgument("the number of the round is negative")
    parting = strong_parting(system)
    parting.advance_to(step)
    return parting.listed()


def classes(system):
    """The classes that no longer change, in the order of their least states."""
    parting = strong_parting(system)
    parting.finish()
    return parting.listed()


def last_round(system):
    """The number of the first round behind which nothing changes."""
    parting = strong_parting(system)
    parting.finish()
    return parting.rounds


def strong_parting(system):
    """The parting of the states of a system in round 0."""
    return Parting([0] * system.count, EdgeSigns(system.count, system.edges))


def are_equivalent(system, first, second):
    """Whether two states are strongly equivalent; raises BadArgument if there is no such state."""
    if not (0 <= first < system.count and 0 <= second < system.count):
        raise BadArgument("there is no such state")
    parting = strong_parting(system)
    parting.finish()
    return parting.class_of[first] == parting.class_of[second]


def small(system):
    """The system of the classes of the reached part."""
    part = reached(system)
    least = {}
    for states in classes(part):
        for state in states:
            least[state] = states[0]
    # Equivalent states have edges to the same classes, so the least one stands for its class.
    found, edges = numbered(0, lambda state: class_edges(part, least, state), part.count)
    return System(len(found), edges)


def class_edges(system, least, state):
    """The ascending list of the actions of the edges that leave a state, with the least states of the classes."""
    return sorted(set([(action, least[target]) for action, target in system.leaving(state)]))
