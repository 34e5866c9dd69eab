"""Names, and the tuples that are processes."""

LOWER = "abcdefghijklmnopqrstuvwxyz"
UPPER = "ABCDEFGHIJKLMNOPQRSTUVWXYZ"
DIGITS = "0123456789"
LONGEST_NAME = 12
MOST_HEIGHT = 20
NO_EVENTS = ("stop", "skip", "tau", "tick", "true", "loops")
# The parts of a process are the last items of its tuple, from this index on.
FIRST_PART = {
    "stop": 1,
    "skip": 1,
    "prefix": 2,
    "external": 1,
    "internal": 1,
    "sequence": 1,
    "parallel": 2,
    "hide": 2,
    "rename": 2,
    "name": 2,
}


def is_event(word):
    """Whether a string is the name of an event."""
    return has_form(word, LOWER, LOWER + DIGITS) and word not in NO_EVENTS


def is_name(word):
    """Whether a string is a process name."""
    return has_form(word, UPPER, UPPER + LOWER + DIGITS)


def has_form(word, firsts, signs):
    """Whether a word of a fitting length begins with one of the firsts and consists of the signs."""
    if not 1 <= len(word) <= LONGEST_NAME:
        return False
    return word[0] in firsts and all([sign in signs for sign in word])


def parts(process):
    """The tuple of the parts of a process."""
    return process[FIRST_PART[process[0]]:]


def with_parts(process, inner):
    """The process with other parts, or a row with numbers in their places."""
    return process[:FIRST_PART[process[0]]] + tuple(inner)


def fold(whole, inner_of, combine):
    """The value of a tree, made from its leaves to the whole.

    The function `inner_of` gives the parts of a tree, and `combine` gets a tree and the list of
    the values of its parts. There is no recursion, since trees may be thousands high.
    """
    values = []
    pending = [(whole, False)]
    while pending:
        place, is_entered = pending.pop()
        inner = inner_of(place)
        if inner and not is_entered:
            pending.append((place, True))
            for part in reversed(inner):
                pending.append((part, False))
        else:
            start = len(values) - len(inner)
            own = values[start:]
            del values[start:]
            values.append(combine(place, own))
    return values[0]


def height(process):
    """The height of a process, which may be as great as one likes."""
    return fold(process, parts, lambda place, inner: 1 + max(inner, default=0))


def references(process):
    """The ascending list of the names to which a process refers."""
    found = set()
    pending = [process]
    while pending:
        place = pending.pop()
        if place[0] == "name":
            found.add(place[1])
        pending.extend(list(parts(place)))
    return sorted(found)
