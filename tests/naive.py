"""Plain second versions of what the program does, word by word after the document, for small inputs."""

import itertools

EVENTS = ("a", "b", "c")
PART_PLACES = {
    "stop": (),
    "skip": (),
    "name": (),
    "prefix": (2,),
    "internal": (1, 2),
    "external": (1, 2),
    "sequence": (1, 2),
    "parallel": (2, 3),
    "hide": (2,),
    "rename": (2,),
}


def inner(process):
    return [process[at] for at in PART_PLACES[process[0]]]


def height(process):
    return 1 + max([height(part) for part in inner(process)], default=0)


def show(process):
    """The text of a process after point 7."""
    kind = process[0]
    if kind in ("stop", "skip"):
        return kind
    if kind == "name":
        return process[1]
    if kind == "prefix":
        return process[1] + " -> " + put(process[2], 5)
    if kind == "hide":
        return put(process[2], 6) + " / {" + ", ".join(process[1]) + "}"
    if kind == "rename":
        return put(process[2], 6) + " [" + ", ".join(a + "=" + b for a, b in process[1]) + "]"
    if kind == "parallel":
        return put(process[2], 1) + " <" + ", ".join(process[1]) + "> " + put(process[3], 2)
    level, sign = {"internal": (2, "|"), "external": (3, "+"), "sequence": (4, ";")}[kind]
    return put(process[1], level) + " " + sign + " " + put(process[2], level + 1)


def put(process, least):
    levels = {"parallel": 1, "internal": 2, "external": 3, "sequence": 4, "prefix": 5, "hide": 6, "rename": 6}
    text = show(process)
    return "(" + text + ")" if levels.get(process[0], 7) < least else text


def step_set(bodies, process):
    """The set of the steps of a process after point 9."""
    kind = process[0]
    stop = ("stop",)
    if kind == "stop":
        return set()
    if kind == "skip":
        return {("tick", stop)}
    if kind == "prefix":
        return {(process[1], process[2])}
    if kind == "internal":
        return {("tau", process[1]), ("tau", process[2])}
    if kind == "name":
        return step_set(bodies, bodies[process[1]])
    if kind == "external":
        _, left, right = process
        found = set()
        for action, target in step_set(bodies, left):
            found.add((action, ("external", target, right) if action == "tau" else target))
        for action, target in step_set(bodies, right):
            found.add((action, ("external", left, target) if action == "tau" else target))
        return found
    if kind == "sequence":
        _, left, right = process
        return {
            ("tau", right) if action == "tick" else (action, ("sequence", target, right))
            for action, target in step_set(bodies, left)
        }
    if kind == "parallel":
        _, events, left, right = process
        lefts, rights = step_set(bodies, left), step_set(bodies, right)
        found = set()
        for action, target in lefts:
            if action != "tick" and action not in events:
                found.add((action, ("parallel", events, target, right)))
        for action, target in rights:
            if action != "tick" and action not in events:
                found.add((action, ("parallel", events, left, target)))
        for (action, target), (other, partner) in itertools.product(lefts, rights):
            if action == other and action in events:
                found.add((action, ("parallel", events, target, partner)))
            if action == other == "tick":
                found.add(("tick", stop))
        return found
    kind, label, part = process
    found = set()
    for action, target in step_set(bodies, part):
        if action == "tick":
            found.add(("tick", stop))
        elif kind == "hide":
            found.add(("tau" if action in label else action, (kind, label, target)))
        else:
            found.add((dict(label).get(action, action), (kind, label, target)))
    return found


def step_list(bodies, process):
    return sorted(step_set(bodies, process), key=lambda step: (step[0], show(step[1])))


def explored(bodies, process, limit):
    """The states and the edges of a process after point 13, or None if there are more states."""
    states = [process]
    edges = []
    for number, state in enumerate(states):
        for action, target in step_list(bodies, state):
            if target not in states:
                states.append(target)
            edges.append((number, action, states.index(target)))
        if len(states) > limit:
            return None
    return states, edges


def random_process(random, names, tallest):
    """A process of at most this height."""
    kinds = ["stop", "skip"] + ["name"] * (3 if names else 0)
    if tallest > 1:
        kinds += ["prefix"] * 6 + ["internal", "external", "sequence", "parallel"] * 2 + ["hide", "rename"]
    kind = random.choice(kinds)
    if kind == "name":
        return (kind, random.choice(names))
    if kind == "prefix":
        return (kind, random.choice(EVENTS), random_process(random, names, tallest - 1))
    if kind in ("stop", "skip"):
        return (kind,)
    label = ()
    if kind in ("parallel", "hide"):
        label = (tuple(event for event in EVENTS if random.random() < 0.4),)
    if kind == "rename":
        olds = random.sample(EVENTS, random.randint(1, 3))
        label = (tuple(sorted((old, random.choice(EVENTS)) for old in olds)),)
    parts = [random_process(random, names, tallest - 1) for _ in PART_PLACES[kind]]
    return (kind,) + label + tuple(parts)


def references_of(process, is_open=True, is_growing=False):
    """The set of the triples (name, open, growing) of the occurrences in a process (point 8)."""
    if process[0] == "name":
        return {(process[1], is_open, is_growing)}
    found = set()
    for index, part in enumerate(inner(process)):
        grows = process[0] in ("parallel", "hide", "rename") or (process[0] == "sequence" and index == 0)
        found |= references_of(part, is_open and process[0] != "prefix", is_growing or grows)
    return found


def first_fault(definitions):
    """The class name and the field of the error that a script with these definitions is due (point 8)."""
    if len(definitions) > 60:
        return ("TooLarge", 60)
    if any(height(process) > 20 for _, process in definitions):
        return ("TooDeep", None)
    names = [name for name, _ in definitions]
    for at, name in enumerate(names):
        if name in names[:at]:
            return ("NameTwice", name)
    found = {name: references_of(process) for name, process in definitions}
    for name in names:
        unknown = sorted(to for to, _, _ in found[name] if to not in names)
        if unknown:
            return ("UnknownName", unknown[0])
    for name in names:
        if name in led_to(name, lambda at: {to for to, is_open, _ in found[at] if is_open}):
            return ("Unguarded", name)

    def after(pair):
        return {(to, pair[1] or is_growing) for to, _, is_growing in found[pair[0]]}

    for name in names:
        if (name, True) in led_to((name, False), after):
            return ("Growing", name)

    def counted(pair):
        return {(to, min(6, pair[1] + is_growing)) for to, _, is_growing in found[pair[0]]}

    if any(count > 5 for name in names for _, count in led_to((name, 0), counted)):
        return ("TooDeep", None)
    bodies = dict(definitions)
    if any(widest(bodies, process) > 200 for _, process in definitions):
        return ("TooLarge", 200)
    return None


def led_to(start, after):
    found = set()
    pending = [start]
    while pending:
        for target in after(pending.pop()) - found:
            found.add(target)
            pending.append(target)
    return found


def width(bodies, process):
    if process[0] in ("stop", "skip", "prefix"):
        return 1
    if process[0] == "name":
        return width(bodies, bodies[process[1]])
    return sum(width(bodies, part) for part in inner(process))


def widest(bodies, process):
    return max([width(bodies, process)] + [widest(bodies, part) for part in inner(process)])


def side_by_side(first, second, events):
    """The number of states and the edges of two systems side by side after point 15."""
    pairs = [(0, 0)]
    edges = []
    for number, (state, other) in enumerate(pairs):
        found = set()
        for source, action, target in first.edges:
            if source == state and action not in events and action != "tick":
                found.add((action, (target, other)))
            for origin, same, partner in second.edges:
                if (source, origin, action) == (state, other, same) and (action in events or action == "tick"):
                    found.add((action, (target, partner)))
        for origin, action, partner in second.edges:
            if origin == other and action not in events and action != "tick":
                found.add((action, (state, partner)))
        for action, pair in sorted(found):
            if pair not in pairs:
                pairs.append(pair)
            edges.append((number, action, pairs.index(pair)))
    return len(pairs), tuple(sorted(edges))
