"""Tidy forms of processes."""

from parley.processes import fold, parts
from parley.texts import show_process


def is_calm(process):
    """Whether a process is "stop", "skip" or "prefix", or "external" with two calm parts."""
    return all([summand[0] in ("stop", "skip", "prefix") for summand in summands(process)])


def summands(process):
    """The list of the summands of a process, from left to right."""
    found = []
    pending = [process]
    while pending:
        place = pending.pop()
        if place[0] == "external":
            pending.extend([place[2], place[1]])
        else:
            found.append(place)
    return found


def tidy(process):
    """The tidy form of a process."""
    return fold(process, parts, tidy_above)


def tidy_above(process, inner):
    """The tidy form of a process, from the tidy forms of its parts."""
    kind = process[0]
    if kind == "prefix":
        return ("prefix", process[1], inner[0])
    if kind == "internal":
        return ("internal", *in_order(inner))
    if kind == "external":
        return tidy_external(inner)
    if kind == "sequence":
        return tidy_sequence(inner[0], inner[1])
    if kind == "parallel":
        return tidy_parallel(process[1], inner)
    if kind == "hide":
        return tidy_hide(process[1], inner[0])
    if kind == "rename":
        return tidy_rename(process[1], inner[0])
    return process


def in_order(processes):
    """The list of some processes in the order of their texts."""
    return [process for _, process in with_texts(processes)]


def with_texts(processes):
    """The list of the pairs of a text and its process, in the order of the texts."""
    return sorted([(show_process(process), process) for process in processes], key=lambda row: row[0])


def tidy_external(inner):
    """The choice between the summands of two tidy forms."""
    rows = with_texts([row for row in summands(inner[0]) + summands(inner[1]) if row != ("stop",)])
    # Equal summands stand side by side.
    kept = [row for at, (text, row) in enumerate(rows) if at == 0 or text != rows[at - 1][0] or not is_calm(row)]
    if not kept:
        return ("stop",)
    whole = kept[0]
    for row in kept[1:]:
        whole = ("external", whole, row)
    return whole


def tidy_sequence(first, second):
    """One tidy form, and then another one; what is grouped to the left is grouped to the right."""
    heads = []
    rest = first
    while rest[0] == "sequence":
        heads.append(rest[1])
        rest = rest[2]
    whole = rest if rest == ("stop",) else ("sequence", rest, second)
    for head in reversed(heads):
        whole = ("sequence", head, whole)
    return whole


def tidy_parallel(events, inner):
    """Two tidy forms side by side."""
    if inner[0] == ("stop",) and inner[1] == ("stop",):
        return ("stop",)
    return ("parallel", events, *in_order(inner))


def tidy_hide(events, part):
    """A tidy form in which events are hidden."""
    if not events or part[0] in ("stop", "skip"):
        return part
    if part[0] == "hide":
        return ("hide", tuple(sorted(set(part[1] + events))), part[2])
    return ("hide", events, part)


def tidy_rename(pairs, part):
    """A tidy form in which events are renamed."""
    words = {old: new for old, new in pairs}
    events = []
    rest = part
    while rest[0] == "prefix":
        events.append(words.get(rest[1], rest[1]))
        rest = rest[2]
    if rest[0] == "rename":
        whole = with_pairs(chained_pairs(rest[1], words), rest[2])
    else:
        whole = with_pairs(pairs, rest)
    for event in reversed(events):
        whole = ("prefix", event, whole)
    return whole


def chained_pairs(pairs, words):
    """The pairs that call each event as first some pairs and then the words of a dict do."""
    chained = {old: words[old] for old in words}
    for old, new in pairs:
        chained[old] = words.get(new, new)
    return tuple(sorted(list(chained.items())))


def with_pairs(pairs, part):
    """A tidy form that is no "prefix" and no "rename", with those of the pairs that change something."""
    useful = tuple([(old, new) for old, new in pairs if old != new])
    if not useful or part[0] in ("stop", "skip"):
        return part
    return ("rename", useful, part)
