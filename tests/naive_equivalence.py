"""Plain second versions of what the program says of equivalences, word by word after the document."""

import naive_systems as naive

STRONG_WORDS = ("true", "not", "and", "or", "can", "must")
WEAK_WORDS = ("true", "not", "and", "or", "might", "loops")


def soft_classes_after(system, step):
    """The soft classes of a round (point 38)."""
    actions = sorted({action for _, action, _ in system.edges} | {"tau"})
    looping = [naive.diverges(system, state) for state in range(system.count)]
    found = [[state for state in range(system.count) if looping[state] == word] for word in (False, True)]
    found = [states for states in found if states]
    for _ in range(step):
        following = []
        for states in found:
            parted = {}
            for state in states:
                moves = frozenset(
                    (action, next(at for at, others in enumerate(found) if target in others))
                    for action in actions
                    for target in naive.soft_targets(system, state, action)
                )
                parted.setdefault(moves, []).append(state)
            following.extend(parted.values())
        if len(following) == len(found):
            break
        found = following
    return sorted(tuple(states) for states in found)


def soft_classes(system):
    return soft_classes_after(system, system.count + 1)


def common_pairs(found, many):
    """The pairs of states of the first and of the second system that are in one class of both together."""
    return sorted((state, other - many) for states in found for state in states for other in states if state < many <= other)


def targets(system, state, action):
    return [target for source, word, target in system.edges if (source, word) == (state, action)]


def is_relation(first, second, relation, is_weak):
    """Whether a list is a strong relation (point 34) or a weak one (point 39)."""
    if not is_list_of_states(first, second, relation):
        return False
    known = set(relation)
    steps = naive.soft_targets if is_weak else targets
    for state, other in relation:
        if is_weak and naive.diverges(first, state) != naive.diverges(second, other):
            return False
        for source, action, target in first.edges:
            if source == state and not any((target, to) in known for to in steps(second, other, action)):
                return False
        for source, action, target in second.edges:
            if source == other and not any((to, target) in known for to in steps(first, state, action)):
                return False
    return True


def is_list_of_states(first, second, relation):
    if (0, 0) not in relation or any(relation[at] >= relation[at + 1] for at in range(len(relation) - 1)):
        return False
    return all(state in range(first.count) and other in range(second.count) for state, other in relation)


def are_weakly_equivalent(first, second):
    both = naive.beside(first, second)
    return any(0 in states and first.count in states for states in soft_classes(both))


def slim(part):
    """The slim system of a system all of whose states are reached, and are numbered after point 14."""
    found = soft_classes(part)
    least = {state: states[0] for states in found for state in states}
    links = {
        (least[source], action, least[target])
        for source, action, target in part.edges
        if action != "tau" or least[source] != least[target]
    }
    links |= {(least[state], "tau", least[state]) for state in range(part.count) if naive.diverges(part, state)}
    chosen = [0]
    edges = []
    for number, origin in enumerate(chosen):
        for _, action, target in sorted(link for link in links if link[0] == origin):
            if target not in chosen:
                chosen.append(target)
            edges.append((number, action, chosen.index(target)))
    return naive.System(len(chosen), edges)


def drawn_relations(source, relation, first, second, many):
    """Lists that are near to a relation: pairs left out, or other ones added."""
    everything = [(state, other) for state in range(first.count) for other in range(second.count)]
    for _ in range(many):
        drawn = {pair for pair in relation if source.random() < 0.9}
        if source.random() < 0.5:
            drawn.add(source.choice(everything))
        yield sorted(drawn)


# What speaks against claims (points 46 and 47)


def in_order(traces):
    return sorted(traces, key=lambda trace: (len(trace), trace))


def is_stuck_after(system, trace):
    ends = [state for state in naive.states_after(system, trace) if not [edge for edge in system.edges if edge[0] == state]]
    return bool(ends) and trace[-1:] != ("tick",)


def stuck_trace(system, length):
    return next((trace for trace in in_order(naive.traces(system, length)) if is_stuck_after(system, trace)), None)


def looping_trace(system, length):
    for trace in in_order(naive.traces(system, length)):
        if naive.any_diverges(system, naive.states_after(system, trace)):
            return trace
    return None


def clashes(system, trace):
    """The actions that may come next after a trace, and that a stable state after it does not offer."""
    states = naive.states_after(system, trace)
    rows = naive.stable_offers(system, states)
    return [action for action in naive.actions_from(system, states) if any(action not in row for row in rows)]


def indeterminacy(system, length):
    for trace in in_order(naive.traces(system, length)):
        if naive.any_diverges(system, naive.states_after(system, trace)):
            return ("divergence", trace)
        if clashes(system, trace):
            return ("both", trace, min(clashes(system, trace)))
    return None
