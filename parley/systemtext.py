"""The texts of systems."""

from parley.errors import BadText
from parley.processes import DIGITS
from parley.systems import MOST_STATES, System, is_action

LONGEST_NUMBER = 5


def format_system(system):
    """The text of a system: the number of its states, and a line for each edge."""
    lines = [f"{source} {action} {target}" for source, action, target in system.edges]
    return "\n".join([f"states {system.count}"] + lines)


def parse_system(text):
    """The system that a text writes; raises BadText with the first wrong line."""
    lines = text.split("\n")
    count = read_count(lines[0])
    edges = []
    for line, row in enumerate(lines[1:], start=2):
        edge = read_edge(row, count, line)
        if edges and edge <= edges[-1]:
            raise BadText(line)
        edges.append(edge)
    return System(count, edges)


def read_count(row):
    """The number of states that the first line of a text writes."""
    words = row.split(" ")
    if len(words) != 2 or words[0] != "states":
        raise BadText(1)
    count = read_number(words[1], 1)
    if not 1 <= count <= MOST_STATES:
        raise BadText(1)
    return count


def read_edge(row, count, line):
    """The edge that a line writes, between two states below a count."""
    words = row.split(" ")
    if len(words) != 3 or not is_action(words[1]):
        raise BadText(line)
    source = read_number(words[0], line)
    target = read_number(words[2], line)
    if source >= count or target >= count:
        raise BadText(line)
    return (source, words[1], target)


def read_number(word, line):
    """The number that a word writes without leading zeros."""
    # A longer number is out of every range, and Python refuses to read very long ones.
    if not 1 <= len(word) <= LONGEST_NUMBER or not all([sign in DIGITS for sign in word]):
        raise BadText(line)
    if word[0] == "0" and word != "0":
        raise BadText(line)
    return int(word)
