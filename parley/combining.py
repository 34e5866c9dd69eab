"""Systems side by side, hiding and renaming."""

from parley.errors import TooLarge
from parley.numbering import numbered
from parley.systems import System


def side_by_side(first, second, events, *, limit=20000):
    """The system of the pairs of states of two systems that do the events together.

    Raises TooLarge(limit).
    """
    system, _ = paired(first, second, events, limit)
    return system


def paired(first, second, events, limit):
    """The system of the pairs of states, and the list of the pairs; raises TooLarge(limit)."""
    joint = {action: True for action in events}
    joint["tick"] = True
    pairs, edges = numbered((0, 0), lambda pair: pair_edges(first, second, joint, pair, limit), limit)
    return System(len(pairs), edges), pairs


def pair_edges(first, second, joint, pair, limit):
    """The ascending list of the edges of a pair, without the pair itself."""
    state, other = pair
    found = common_edges(first, second, joint, pair, limit)
    for action, target in first.leaving(state):
        if action not in joint:
            found.append((action, (target, other)))
    for action, target in second.leaving(other):
        if action not in joint:
            found.append((action, (state, target)))
    return sorted(set(found))


def common_edges(first, second, joint, pair, limit):
    """The edges of a pair that both systems do together."""
    state, other = pair
    found = []
    for action in first.offers(state):
        if action in joint:
            targets = first.targets(state, action)
            others = second.targets(other, action)
            # All these pairs differ, so they can be refused before they are made: there may be millions.
            if len(targets) * len(others) > limit:
                raise TooLarge(limit)
            found.extend([(action, (target, partner)) for target in targets for partner in others])
    return found


def hidden(system, events):
    """The system whose edges with the events are called "tau"."""
    return relabelled(system, {event: "tau" for event in events})


def renamed(system, pairs):
    """The system whose edges with the first event of a pair are called by the second one."""
    return relabelled(system, {old: new for old, new in pairs})


def relabelled(system, words):
    """The system in which a dict gives actions another word."""
    edges = [(source, words.get(action, action), target) for source, action, target in system.edges]
    return System(system.count, edges)
