"""Answers to claims about the processes of a script, checking them, and reporting them."""

from parley.behaviours import is_divergence, is_trace, stable_offers
from parley.certifying import is_certificate, is_difference
from parley.claims import indeterminacy, is_stuck_after, looping_trace, names_in, show_claim, stuck_trace
from parley.equivalence import compare_strongly, is_strong_relation
from parley.errors import BadAnswer
from parley.exploring import explore
from parley.refining import refines
from parley.sheets import is_sheet, sheet_depth, sheet_satisfies
from parley.systems import is_action
from parley.weakness import compare_weakly, is_weak_relation

# The words that an answer can begin with: the first one says that the claim holds.
ANSWER_WORDS = {
    "refines": ("yes", "no"),
    "strong": ("same", "different"),
    "weak": ("same", "different"),
    "unstuck": ("yes", "no"),
    "unlooped": ("yes", "no"),
    "determinate": ("yes", "no"),
}
STRONG_WORDS = ("true", "not", "and", "or", "can", "must")
WEAK_WORDS = ("true", "not", "and", "or", "might", "loops")


def answer(script, claim, *, limit=2000):
    """The answer to a claim: a pair of a word and the evidence.

    Raises UnknownName, then TooLarge as `explore` does, and then what the comparisons raise.
    """
    systems = systems_of(script, claim, limit)
    kind = claim[0]
    if kind == "refines":
        return refines(systems[0], systems[1], claim[1])
    if kind == "strong":
        return compare_strongly(systems[0], systems[1])
    if kind == "weak":
        return compare_weakly(systems[0], systems[1])
    found = evidence_against(systems[0], kind)
    return ("yes", ()) if found is None else ("no", found)


def systems_of(script, claim, limit):
    """The list of the systems of the processes of which a claim speaks."""
    for name in names_in(claim):
        script.body(name)
    return [explore(script, ("name", name), limit=limit)[0] for name in names_in(claim)]


def evidence_against(system, kind):
    """The least evidence against a claim about one process, or None."""
    if kind == "unstuck":
        return stuck_trace(system)
    if kind == "unlooped":
        return looping_trace(system)
    return indeterminacy(system)


def answers(script, claims, *, limit=2000):
    """The list of the answers to a list of claims; raises what `answer` raises."""
    return [answer(script, claim, limit=limit) for claim in claims]


def is_shown(script, claim, reply, *, limit=2000):
    """Whether the evidence of a reply to a claim shows it.

    Raises UnknownName and TooLarge as `answer` does for the processes, and then BadAnswer.
    """
    systems = systems_of(script, claim, limit)
    kind = claim[0]
    if reply[0] not in ANSWER_WORDS[kind]:
        raise BadAnswer("the claim cannot have such an answer")
    if kind == "refines":
        return is_refinement_shown(systems, claim[1], reply)
    if kind == "strong":
        return is_equivalence_shown(systems, reply, is_strong_relation, STRONG_WORDS)
    if kind == "weak":
        return is_equivalence_shown(systems, reply, is_weak_relation, WEAK_WORDS)
    if reply[0] == "yes":
        return reply[1] == () and evidence_against(systems[0], kind) is None
    return is_evidence(systems[0], kind, reply[1])


def is_refinement_shown(systems, model, reply):
    """Whether a certificate or a difference shows a reply."""
    first, second = systems
    word, shown = reply
    if word == "yes":
        return is_certificate(first, second, model, shown)
    rows = shown[1:]
    return all([is_trace_of_actions(row) for row in rows]) and is_difference(first, second, model, shown)


def is_trace_of_actions(row):
    """Whether a tuple has actions without "tau" only."""
    return all([is_action(action) and action != "tau" for action in row])


def is_equivalence_shown(systems, reply, is_relation, words):
    """Whether a relation, or a sheet of formulas with some words only, shows a reply."""
    first, second = systems
    word, shown = reply
    if word == "same":
        return is_relation(first, second, shown)
    return tells_apart(first, second, shown, words)


def tells_apart(first, second, sheet, words):
    """Whether the formula of a sheet has these words only, and the first system alone satisfies it."""
    if not is_sheet(sheet) or not all([row[0] in words for row in sheet]):
        return False
    return sheet_satisfies(first, sheet) and not sheet_satisfies(second, sheet)


def is_evidence(system, kind, shown):
    """Whether something speaks against a claim about one process, be it the least or not."""
    if kind == "unstuck":
        return is_trace_of_actions(shown) and is_stuck_after(system, shown)
    if kind == "unlooped":
        return is_trace_of_actions(shown) and is_divergence(system, shown)
    if shown[0] == "divergence":
        return is_trace_of_actions(shown[1]) and is_divergence(system, shown[1])
    trace, action = shown[1:]
    return is_trace_of_actions(trace + (action,)) and does_both(system, trace, action)


def does_both(system, trace, action):
    """Whether a system can do an action after a trace, while a stable state after it does not offer it."""
    if not is_trace(system, trace + (action,)):
        return False
    return any([action not in offers for offers in stable_offers(system, trace)])


def report(script, claims, *, limit=2000):
    """The text of the answers to a list of claims; raises what `answers` raises."""
    if not claims:
        return ""
    found = answers(script, claims, limit=limit)
    lines = [f"{show_claim(claim)}: {said(claim, reply)}" for claim, reply in zip(claims, found)]
    many = len([claim for claim, reply in zip(claims, found) if is_holding(claim, reply)])
    return "\n".join(lines + [f"{many} of {len(claims)} hold"])


def is_holding(claim, reply):
    """Whether an answer says that a claim holds."""
    return reply[0] == ANSWER_WORDS[claim[0]][0]


def said(claim, reply):
    """The words of an answer."""
    if is_holding(claim, reply):
        return "holds"
    kind = claim[0]
    shown = reply[1]
    if kind == "refines":
        return f"fails {said_of_behaviour(shown)}"
    if kind in ("strong", "weak"):
        return f"fails by a formula of depth {sheet_depth(shown)}"
    if kind in ("unstuck", "unlooped"):
        return f"fails after {action_list(shown)}"
    if shown[0] == "divergence":
        return f"fails {said_of_behaviour(shown)}"
    return f"fails after {action_list(shown[1])} both does and refuses {shown[2]}"


def said_of_behaviour(behaviour):
    """The words for a behaviour."""
    kind = behaviour[0]
    trace = behaviour[1]
    if kind == "trace":
        return f"after {action_list(trace[:-1])} does {trace[-1]}"
    if kind == "divergence":
        return f"after {action_list(trace)} loops"
    return f"after {action_list(trace)} offers only {action_list(behaviour[2])}"


def action_list(actions):
    """The text of a trace or of offers."""
    return "<" + ", ".join(actions) + ">"
