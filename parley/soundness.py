"""The rules for the definitions of a script."""

from parley.errors import Growing, NameTwice, TooDeep, TooLarge, Unguarded, UnknownName
from parley.processes import MOST_HEIGHT, fold, height, parts, references

MOST_DEFINITIONS = 60
MOST_GROWING = 5
MOST_WIDTH = 200
GROWING_KINDS = ("parallel", "hide", "rename")


def check_sound(definitions):
    """Raises the error of the first rule that the definitions break."""
    if len(definitions) > MOST_DEFINITIONS:
        raise TooLarge(MOST_DEFINITIONS)
    if any([height(process) > MOST_HEIGHT for _, process in definitions]):
        raise TooDeep("a process is too high")
    check_names(definitions)
    found = {name: occurrences(process) for name, process in definitions}
    opens = {name: {to: True for to, is_open, _ in found[name] if is_open} for name in found}
    every = {name: {to: True for to, _, _ in found[name]} for name in found}
    grows = {name: {to: True for to, _, is_growing in found[name] if is_growing} for name in found}
    check_guarded(opens)
    check_not_growing(every, grows)
    if longest_growth(every, grows) > MOST_GROWING:
        raise TooDeep("too many growing references follow each other")
    check_widths(definitions, opens)


def check_names(definitions):
    """Raises NameTwice and UnknownName."""
    known = set()
    for name, _ in definitions:
        if name in known:
            raise NameTwice(name)
        known.add(name)
    for _, process in definitions:
        for name in references(process):
            if name not in known:
                raise UnknownName(name)


def occurrences(process):
    """The list of a triple for each occurrence of a name: it, if it is open, if it is growing."""
    found = []
    pending = [(process, True, False)]
    while pending:
        place, is_open, is_growing = pending.pop()
        kind = place[0]
        if kind == "name":
            found.append((place[1], is_open, is_growing))
        for index, part in enumerate(parts(place)):
            grows_here = kind in GROWING_KINDS or (kind == "sequence" and index == 0)
            pending.append((part, is_open and kind != "prefix", is_growing or grows_here))
    return found


def reached_from(links, start):
    """A dict whose keys are the names to which one or more links lead from a name."""
    found = {}
    pending = list(links[start])
    while pending:
        name = pending.pop()
        if name not in found:
            found[name] = True
            pending.extend(list(links[name]))
    return found


def check_guarded(opens):
    """Raises Unguarded for the first name that open references lead back to itself."""
    for name in opens:
        if name in reached_from(opens, name):
            raise Unguarded(name)


def check_not_growing(every, grows):
    """Raises Growing for the first name that leads back to itself and grows on the way."""
    reached = {name: reached_from(every, name) for name in every}
    for name in every:
        around = [other for other in reached[name] if name in reached[other]]
        for other in around:
            if any([to in grows[other] for to in around]):
                raise Growing(name)


def longest_growth(every, grows):
    """The greatest number of growing references in one chain, if no name is growing."""
    most = {name: 0 for name in every}
    is_changed = True
    while is_changed:
        is_changed = False
        for name in every:
            for to in every[name]:
                length = most[to] + (1 if to in grows[name] else 0)
                if length > most[name]:
                    most[name] = length
                    is_changed = True
    return max(list(most.values()), default=0)


def check_widths(definitions, opens):
    """Raises TooLarge if a process that occurs in a definition is too wide."""
    bodies = {name: process for name, process in definitions}
    widths = {}
    for name in guarded_order(opens):
        widths[name], _ = width_pair(bodies[name], widths)
    for _, process in definitions:
        _, widest = width_pair(process, widths)
        if widest > MOST_WIDTH:
            raise TooLarge(MOST_WIDTH)


def guarded_order(opens):
    """The names in such an order that open references lead to earlier names only."""
    ordered = []
    placed = set()
    while len(ordered) < len(opens):
        for name in opens:
            if name not in placed and all([to in placed for to in opens[name]]):
                placed.add(name)
                ordered.append(name)
    return ordered


def width_pair(process, widths):
    """The width of a process, and the greatest width of all processes that occur in it.

    The dict `widths` has the width of each name. Where one is missing, the name stands behind a
    "prefix", and its width does not count for the first number.
    """
    return fold(process, parts, lambda place, inner: width_above(place, inner, widths))


def width_above(process, inner, widths):
    """The pair of a process, from the pairs of its parts."""
    kind = process[0]
    if kind == "name":
        own = widths.get(process[1], 1)
    elif kind in ("stop", "skip", "prefix"):
        own = 1
    else:
        own = sum([width for width, _ in inner])
    return (own, max([own] + [widest for _, widest in inner]))
