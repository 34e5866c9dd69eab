"""Numbers for the states of a system that is found edge by edge."""

from parley.errors import TooLarge


def numbered(start, edges_of, limit):
    """The list of the states to which edges lead from the start, in the order of their numbers, and
    the list of the edges between these numbers.

    The function `edges_of` gives the list of the pairs of an action and a state that follow a state,
    in their order. Raises TooLarge(limit) if there are more states after the edges of one of them.
    """
    numbers = {start: 0}
    states = [start]
    edges = []
    at = 0
    while at < len(states):
        following = edges_of(states[at])
        for action, target in following:
            if target not in numbers:
                numbers[target] = len(states)
                states.append(target)
            edges.append((at, action, numbers[target]))
        if len(states) > limit:
            raise TooLarge(limit)
        at += 1
    return states, edges
