"""Plain second versions of what the program says of systems, word by word after the document, for small ones."""

from parley.systems import System

ACTIONS = ("a", "b", "tau", "tick")
MODELS = ("traces", "failures", "divergences")


def random_system(source, most_states=4, most_edges=8, actions=ACTIONS):
    count = source.randint(1, most_states)
    edges = [
        (source.randrange(count), source.choice(actions), source.randrange(count))
        for _ in range(source.randint(0, most_edges))
    ]
    return System(count, edges)


def line(*actions):
    """A system that does the actions one after another."""
    return System(len(actions) + 1, [(at, action, at + 1) for at, action in enumerate(actions)])


def ring(*actions):
    """A system that does the actions one after another for ever."""
    return System(len(actions), [(at, action, (at + 1) % len(actions)) for at, action in enumerate(actions)])


# Behaviours (points 17 to 19)


def closed(system, states):
    found = set(states)
    while True:
        more = found | {target for source, action, target in system.edges if source in found and action == "tau"}
        if more == found:
            return frozenset(found)
        found = more


def follow(system, states, action):
    return closed(system, {target for source, word, target in system.edges if source in states and word == action})


def states_after(system, trace):
    states = closed(system, {0})
    for action in trace:
        states = follow(system, states, action)
    return states


def actions_from(system, states):
    return sorted({action for source, action, _ in system.edges if source in states and action != "tau"})


def offers(system, state):
    return tuple(actions_from(system, {state}))


def is_stable(system, state):
    return not [edge for edge in system.edges if edge[0] == state and edge[1] == "tau"]


def stable_offers(system, states):
    return sorted({offers(system, state) for state in states if is_stable(system, state)})


def diverges(system, state):
    """A chain of more edges with "tau" than there are states comes twice to some state."""
    states = {state}
    for _ in range(system.count):
        states = {target for source, action, target in system.edges if source in states and action == "tau"}
    return bool(states)


def any_diverges(system, states):
    return any(diverges(system, state) for state in states)


def traces(system, length):
    found = [()]
    level = [()]
    for _ in range(length):
        level = [trace + (action,) for trace in level for action in actions_from(system, states_after(system, trace))]
        found.extend(level)
    return found


def behaviours_at(system, trace):
    """All behaviours of a system at one trace."""
    states = states_after(system, trace)
    found = [("trace", trace)] if states else []
    if any_diverges(system, states):
        found.append(("divergence", trace))
    return found + [("failure", trace, row) for row in stable_offers(system, states)]


# Refinement (points 20 to 23)


def allows(system, behaviour, model):
    kind, trace = behaviour[:2]
    if model == "divergences":
        for at in range(len(trace) + 1):
            if any_diverges(system, states_after(system, trace[:at])):
                return True
    states = states_after(system, trace)
    if kind == "trace":
        return bool(states)
    if kind == "failure":
        return any(set(row) <= set(behaviour[2]) for row in stable_offers(system, states))
    return False


def kinds_in(model):
    return {"traces": ["trace"], "failures": ["trace", "failure"]}.get(model, ["trace", "divergence", "failure"])


def order(behaviour):
    kind, trace = behaviour[:2]
    row = behaviour[2] if kind == "failure" else ()
    return (len(trace), trace, ("trace", "divergence", "failure").index(kind), len(row), row)


def least_difference(first, second, model):
    """The least behaviour of the second system that the first one does not allow, or None.

    Of traces after which both systems are in the same states, the first one is looked at only.
    """
    level = [()]
    seen = set()
    while level:
        following = []
        for trace in level:
            key = (states_after(first, trace), states_after(second, trace))
            if key in seen:
                continue
            seen.add(key)
            found = [
                behaviour
                for behaviour in behaviours_at(second, trace)
                if behaviour[0] in kinds_in(model) and not allows(first, behaviour, model)
            ]
            if found:
                return min(found, key=order)
            if model == "divergences" and any_diverges(first, key[0]):
                continue
            following.extend(trace + (action,) for action in actions_from(second, key[1]))
        level = following
    return None


def following_pairs(first, second, model, pair):
    state, states = pair
    if model == "divergences" and any_diverges(first, states):
        return []
    found = []
    for source, action, target in second.edges:
        if source == state:
            after = states if action == "tau" else tuple(sorted(follow(first, states, action)))
            if action == "tau" or after:
                found.append((target, after))
    return found


def pairs_of(first, second, model):
    """The ascending list of the pairs of two systems (point 22)."""
    found = [(0, tuple(sorted(closed(first, {0}))))]
    for pair in found:
        found.extend(sorted(set(following_pairs(first, second, model, pair)) - set(found)))
    return sorted(found)


def is_certificate(first, second, model, rows):
    if any(rows[at] >= rows[at + 1] for at in range(len(rows) - 1)):
        return False
    for state, states in rows:
        if state not in range(second.count) or any(other not in range(first.count) for other in states):
            return False
        if list(states) != sorted(set(states)):
            return False
    if (0, tuple(sorted(closed(first, {0})))) not in rows:
        return False
    for state, states in rows:
        if model == "divergences" and any_diverges(first, states):
            continue
        for source, action, target in second.edges:
            if source == state:
                after = states if action == "tau" else tuple(sorted(follow(first, states, action)))
                if (target, after) not in rows or (action != "tau" and not after):
                    return False
        if model != "traces" and is_stable(second, state):
            if not any(set(row) <= set(offers(second, state)) for row in stable_offers(first, states)):
                return False
        if model == "divergences" and diverges(second, state):
            return False
    return True


# Normal forms (points 25 to 28)


def normal_form(system, model):
    """The pair of the normal form, and of the number of the tuples of states to whose traces a node belongs."""
    places = [closed(system, {0})]
    moves = []
    labels = []
    for states in places:
        hangs = model == "divergences" and any_diverges(system, states)
        rows = [] if hangs or model == "traces" else stable_offers(system, states)
        least = [row for row in rows if not any(set(other) < set(row) for other in rows)]
        labels.append((tuple(least), hangs))
        moves.append({})
        for action in [] if hangs else actions_from(system, states):
            target = follow(system, states, action)
            if target not in places:
                places.append(target)
            moves[-1][action] = places.index(target)
    # Two places have the same node if they agree as far as there are places.
    kinds = [(label, tuple(row)) for label, row in zip(labels, moves)]
    for _ in places:
        kinds = [(kinds[at], tuple((action, kinds[to]) for action, to in row.items())) for at, row in enumerate(moves)]
        kinds = [kinds.index(kind) for kind in kinds]
    chosen = [0]
    nodes = []
    for at in chosen:
        row = []
        for action, to in sorted(moves[at].items()):
            same = [other for other in chosen if kinds[other] == kinds[to]]
            if not same:
                chosen.append(to)
            row.append((action, [kinds[other] for other in chosen].index(kinds[to])))
        nodes.append((tuple(row),) + labels[at])
    return tuple(nodes), len(places)


# Formulas (points 29 and 30)


def parts(formula):
    return [item for item in formula[1:] if isinstance(item, tuple)]


def soft_targets(system, state, action):
    before = closed(system, {state})
    return before if action == "tau" else follow(system, before, action)


def holds(system, state, formula):
    kind = formula[0]
    if kind == "true":
        return True
    if kind == "loops":
        return diverges(system, state)
    if kind == "not":
        return not holds(system, state, formula[1])
    if kind == "and":
        return holds(system, state, formula[1]) and holds(system, state, formula[2])
    if kind == "or":
        return holds(system, state, formula[1]) or holds(system, state, formula[2])
    if kind == "might":
        return any(holds(system, target, formula[2]) for target in soft_targets(system, state, formula[1]))
    results = [holds(system, to, formula[2]) for at, action, to in system.edges if (at, action) == (state, formula[1])]
    return any(results) if kind == "can" else all(results)


def depth(formula):
    most = max([depth(part) for part in parts(formula)], default=0)
    return most + (formula[0] in ("loops", "can", "must", "might"))


def height(formula):
    return 1 + max([height(part) for part in parts(formula)], default=0)


def size(formula):
    return 1 + sum(size(part) for part in parts(formula))


def random_formula(source, tallest, actions=ACTIONS):
    kind = source.choice(("true", "loops") if tallest == 1 else ("true", "not", "and", "or", "can", "must", "might"))
    if kind in ("true", "loops"):
        return (kind,)
    label = (source.choice(actions),) if kind in ("can", "must", "might") else ()
    many = 2 if kind in ("and", "or") else 1
    return (kind,) + label + tuple(random_formula(source, tallest - 1, actions) for _ in range(many))


# Strong equivalence (points 33 and 34)


def moves_to_classes(system, found, state):
    return {
        (action, next(at for at, states in enumerate(found) if target in states))
        for source, action, target in system.edges
        if source == state
    }


def classes_after(system, step):
    found = [list(range(system.count))]
    for _ in range(step):
        following = []
        for states in found:
            parted = {}
            for state in states:
                parted.setdefault(frozenset(moves_to_classes(system, found, state)), []).append(state)
            following.extend(parted.values())
        found = following
    return sorted(tuple(states) for states in found)


def beside(first, second):
    """The system that consists of the states of both."""
    edges = [(source + first.count, action, target + first.count) for source, action, target in second.edges]
    return System(first.count + second.count, list(first.edges) + edges)


def are_strongly_equivalent(first, second):
    both = beside(first, second)
    return any(0 in states and first.count in states for states in classes_after(both, both.count))


def small(part):
    """The small system of a system all of whose states are reached, and are numbered after point 14."""
    found = classes_after(part, part.count)
    least = {state: states[0] for states in found for state in states}
    chosen = [0]
    edges = []
    for number, origin in enumerate(chosen):
        targets = {(action, least[target]) for source, action, target in part.edges if least[source] == origin}
        for action, target in sorted(targets):
            if target not in chosen:
                chosen.append(target)
            edges.append((number, action, chosen.index(target)))
    return System(len(chosen), edges)
