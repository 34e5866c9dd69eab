"""How the text of a process is put together from the texts of its parts."""

LEVELS = {
    "parallel": 1,
    "internal": 2,
    "external": 3,
    "sequence": 4,
    "prefix": 5,
    "hide": 6,
    "rename": 6,
    "stop": 7,
    "skip": 7,
    "name": 7,
}
# The least levels that the places of the parts ask for.
LEAST_LEVELS = {
    "parallel": (1, 2),
    "internal": (2, 3),
    "external": (3, 4),
    "sequence": (4, 5),
    "prefix": (5,),
    "hide": (6,),
    "rename": (6,),
    "stop": (),
    "skip": (),
    "name": (),
}
SIGNS = {"internal": "|", "external": "+", "sequence": ";"}


def written(process, kinds, texts):
    """The text of a process, from the kinds and the texts of its parts."""
    kind = process[0]
    least = LEAST_LEVELS[kind]
    inner = [bracketed(kinds[at], texts[at], least[at]) for at in range(len(texts))]
    if kind == "prefix":
        return f"{process[1]} -> {inner[0]}"
    if kind == "hide":
        hidden = event_list(process[1])
        return inner[0] + " / {" + hidden + "}"
    if kind == "rename":
        return f"{inner[0]} [{pair_list(process[1])}]"
    if kind == "parallel":
        return f"{inner[0]} <{event_list(process[1])}> {inner[1]}"
    if kind in SIGNS:
        return f"{inner[0]} {SIGNS[kind]} {inner[1]}"
    return process[1] if kind == "name" else kind


def bracketed(kind, text, least):
    """The text of a part, in round brackets if its level is less than its place asks."""
    return f"({text})" if LEVELS[kind] < least else text


def event_list(events):
    """The text of a list of events."""
    return ", ".join(events)


def pair_list(pairs):
    """The text of a list of pairs."""
    return ", ".join([f"{old}={new}" for old, new in pairs])
