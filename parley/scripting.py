"""Scripts whose processes do what systems do."""

from parley.errors import BadSystem, TooLarge
from parley.scripts import Script
from parley.systems import reached

MOST_STATES = 59
MOST_EDGES = 200
START = "Start"


def script_of(system):
    """A script for a system, and the name of the process that does what the system does.

    Raises TooLarge(59), then TooLarge(200), and then BadSystem.
    """
    part = reached(system)
    check_part(part)
    silent = unused_event(part)
    definitions = [(START, ("hide", (silent,), ("name", name_of(0))))]
    for state in range(part.count):
        definitions.append((name_of(state), choice_of(part.leaving(state), silent)))
    return Script(definitions), START


def check_part(part):
    """Raises the error of the first rule that the reached part of a system breaks."""
    if part.count > MOST_STATES:
        raise TooLarge(MOST_STATES)
    if any([len(part.leaving(state)) > MOST_EDGES for state in range(part.count)]):
        raise TooLarge(MOST_EDGES)
    for _, action, target in part.edges:
        if action == "tick" and part.leaving(target):
            raise BadSystem("an edge leaves a state to which an edge with tick leads")


def unused_event(part):
    """An event that the system does not have."""
    known = {event: True for event in part.events()}
    number = 0
    while f"silent{number}" in known:
        number += 1
    return f"silent{number}"


def name_of(state):
    """The name of the process of a state."""
    return f"State{state}"


def choice_of(leaving, silent):
    """The process that has a step for each of the edges that leave a state.

    A step "tau" would not end a choice, so such an edge becomes an event, which is hidden in the end.
    """
    rows = []
    for action, target in leaving:
        if action == "tick":
            rows.append(("skip",))
        else:
            rows.append(("prefix", silent if action == "tau" else action, ("name", name_of(target))))
    # Pairs of neighbours are put together again and again: a chain would be too high.
    while len(rows) > 1:
        pairs = [("external", rows[at], rows[at + 1]) for at in range(0, len(rows) - 1, 2)]
        rows = pairs + rows[len(pairs) * 2:]
    return rows[0] if rows else ("stop",)
