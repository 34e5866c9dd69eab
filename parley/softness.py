"""The classes of weakly equivalent states, and slim systems."""

from parley.behaviours import diverging
from parley.errors import BadArgument
from parley.numbering import numbered
from parley.softening import SoftClasses
from parley.systems import System, reached


def soft_classes_after(system, step):
    """The soft classes of the round with a number, in the order of their least states.

    Raises BadArgument for a negative number, and then TooLarge(2000).
    """
    if step < 0:
        raise BadArgument("the number of the round is negative")
    found = SoftClasses(system)
    found.parting.advance_to(step)
    return found.listed()


def soft_classes(system):
    """The soft classes that no longer change, in the order of their least states; raises TooLarge(2000)."""
    found = SoftClasses(system)
    found.parting.finish()
    return found.listed()


def slim(system):
    """The system of the soft classes of the reached part; raises TooLarge(2000)."""
    part = reached(system)
    least = {}
    for states in soft_classes(part):
        for state in states:
            least[state] = states[0]
    following = slim_edges(part, least)
    found, edges = numbered(0, lambda state: following[state], part.count)
    return System(len(found), edges)


def slim_edges(part, least):
    """For the least state of each class the ascending list of the edges of the class."""
    edges = {state: [] for state in list(least.values())}
    for source, action, target in part.edges:
        if action != "tau" or least[source] != least[target]:
            edges[least[source]].append((action, least[target]))
    for state in diverging(part):
        edges[least[state]].append(("tau", least[state]))
    return {state: sorted(set(edges[state])) for state in edges}
