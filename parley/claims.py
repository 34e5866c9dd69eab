"""Claims about the processes of a script, and what of a system speaks against them."""

from parley.behaviours import diverging, states_after
from parley.errors import BadText
from parley.models import is_model
from parley.processes import is_name
from parley.searching import least_clash, least_trace

# The words behind the names of the processes, and what they say.
KINDS_BY_SIGN = {"==": "strong", "~~": "weak"}
KINDS_BY_WORDS = {"never stuck": "unstuck", "never loops": "unlooped", "determinate": "determinate"}


def names_in(claim):
    """The tuple of the names of the processes of which a claim speaks."""
    return claim[2:] if claim[0] == "refines" else claim[1:]


def show_claim(claim):
    """The line of a claim."""
    kind = claim[0]
    if kind == "refines":
        return f"{claim[2]} <= {claim[3]} in {claim[1]}"
    for sign in KINDS_BY_SIGN:
        if KINDS_BY_SIGN[sign] == kind:
            return f"{claim[1]} {sign} {claim[2]}"
    for words in KINDS_BY_WORDS:
        if KINDS_BY_WORDS[words] == kind:
            return f"{claim[1]} {words}"
    return ""


def format_claims(claims):
    """The text of a list of claims, one line for each of them."""
    return "\n".join([show_claim(claim) for claim in claims])


def parse_claims(text):
    """The list of the claims that a text writes; raises BadText with the first wrong line."""
    found = []
    for line, row in enumerate(text.split("\n"), start=1):
        words = [word for word in row.split(" ") if word != ""]
        if words:
            found.append(read_claim(words, line))
    return found


def read_claim(words, line):
    """The claim that the words of a line write."""
    claim = claim_of(words)
    if claim == () or not all([is_name(name) for name in names_in(claim)]):
        raise BadText(line)
    return claim


def claim_of(words):
    """The claim that some words have the form of, whatever its names are, or the empty tuple."""
    if len(words) == 5 and words[1] == "<=" and words[3] == "in" and is_model(words[4]):
        return ("refines", words[4], words[0], words[2])
    if len(words) == 3 and words[1] in KINDS_BY_SIGN:
        return (KINDS_BY_SIGN[words[1]], words[0], words[2])
    rest = " ".join(words[1:])
    if rest in KINDS_BY_WORDS:
        return (KINDS_BY_WORDS[rest], words[0])
    return ()


def stuck_trace(system):
    """The least trace after which a system gets stuck, or None."""
    # A place is a state, and whether the last action was "tick".
    return least_trace(
        (0, False),
        lambda place: ticking_edges(system, place),
        lambda place: not place[1] and not system.leaving(place[0]),
    )


def ticking_edges(system, place):
    """The list of the pairs of an action and a place that follow a state and a boolean."""
    state, is_ended = place
    found = []
    for action, target in system.leaving(state):
        found.append((action, (target, action == "tick" or (action == "tau" and is_ended))))
    return found


def is_stuck_after(system, trace):
    """Whether a system gets stuck after a trace."""
    if len(trace) > 0 and trace[-1] == "tick":
        return False
    return any([not system.leaving(state) for state in states_after(system, trace)])


def looping_trace(system):
    """The least divergence of a system, or None."""
    looping = {state: True for state in diverging(system)}
    return least_trace(
        0,
        lambda state: system.leaving(state),
        lambda state: state in looping,
    )


def indeterminacy(system):
    """What shows that a system is not determinate: ("divergence", trace) or ("both", trace, action).

    It is the one with the least trace, or None if the system is determinate.
    """
    looping = looping_trace(system)
    clash = least_clash(system)
    if clash is None:
        return None if looping is None else ("divergence", looping)
    trace, action = clash
    if looping is None or (len(trace), trace) < (len(looping), looping):
        return ("both", trace, action)
    return ("divergence", looping)
