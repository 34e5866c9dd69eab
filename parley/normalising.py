"""Normal forms: what systems allow in a model, and nothing else."""

from parley.behaviours import Tracker, diverging, offers_among
from parley.models import check_model, smallest_offers
from parley.numbering import numbered
from parley.parting import parted_by_edges
from parley.systems import System


def normal_form(system, model, *, limit=2000):
    """The normal form of a system in a model; raises UnknownModel, and then TooLarge(limit)."""
    check_model(model)
    tracker = Tracker(system)
    hanging = {state: True for state in diverging(system)} if model == "divergences" else {}
    numbers, edges = numbered(tracker.start, lambda number: moves_of(tracker, hanging, number), limit)
    labels = [label_of(system, hanging, model, tracker.tuples[number]) for number in numbers]
    parting = parted_by_edges(len(numbers), edges, labels)
    return form_of(parting, edges, labels)


def moves_of(tracker, hanging, number):
    """The moves from a tuple of states; there are none from one with a state that hangs."""
    return [] if hangs(hanging, tracker.tuples[number]) else tracker.moves(number)


def hangs(hanging, states):
    """Whether one of several states is a key of a dict."""
    return any([state in hanging for state in states])


def label_of(system, hanging, model, states):
    """The pair of the offers of a node and whether it diverges."""
    if hangs(hanging, states):
        return ((), True)
    if model == "traces":
        return ((), False)
    return (smallest_offers(offers_among(system, states)), False)


def form_of(parting, edges, labels):
    """The normal form with a node for each class of tuples of states."""
    classes = parting.class_of
    # All tuples of a class have the same label and moves to the same classes: one stands for them.
    chosen = {number: at for at, number in enumerate(classes)}
    moves = [[] for _ in labels]
    for source, action, target in edges:
        moves[source].append((action, classes[target]))
    order, links = numbered(classes[0], lambda number: moves[chosen[number]], len(labels))
    nodes = [[] for _ in order]
    for source, action, target in links:
        nodes[source].append((action, target))
    return tuple([(tuple(nodes[at]),) + labels[chosen[number]] for at, number in enumerate(order)])


def picture(form, model):
    """The system of a normal form; raises UnknownModel, and BadSystem if it has too many states."""
    check_model(model)
    firsts = []
    count = 0
    for _, offers, _ in form:
        firsts.append(count)
        count += 1 + len(offers)
    edges = []
    for at, node in enumerate(form):
        edges.extend(node_edges(node, firsts[at], firsts, model))
    return System(count, edges)


def node_edges(node, first, firsts, model):
    """The edges that leave the states of a node, of which the first one is given."""
    moves, offers, is_hanging = node
    edges = [(first, action, firsts[target]) for action, target in moves]
    if is_hanging or (model != "traces" and len(offers) == 0):
        edges.append((first, "tau", first))
    for state, row in enumerate(offers, start=first + 1):
        edges.append((first, "tau", state))
        edges.extend([(state, action, firsts[target]) for action, target in moves if action in row])
    return edges


def are_equal(first, second, model, *, limit=2000):
    """Whether the normal forms of two systems are equal; raises what `normal_form` raises."""
    return normal_form(first, model, limit=limit) == normal_form(second, model, limit=limit)
