"""Networks of systems that are put together by trees."""

from parley.combining import hidden, renamed, side_by_side
from parley.errors import BadNetwork
from parley.exploring import explore
from parley.processes import fold
from parley.softness import slim
from parley.stepping import check_known
from parley.systems import reached

MOST_HEIGHT = 200
MOST_PARTS = 400
KINDS_OF_TREES = ("parallel", "hide", "rename")


class Network:
    """Systems, and a tree that says how they are put together."""

    def __init__(self, parts, tree):
        self.parts = tuple(parts)
        self.tree = tree
        check_tree(tree, len(self.parts))


def check_tree(tree, many):
    """Raises BadNetwork if a tree does not fit so many parts."""
    named = 0
    pending = [(tree, 1)]
    # A tree may have one part in very many places, so nothing is looked at beyond what is allowed.
    while pending:
        place, level = pending.pop()
        if level > MOST_HEIGHT:
            raise BadNetwork("the tree is too high")
        if place[0] == "part":
            named += 1
            if named > MOST_PARTS or not 0 <= place[1] < many:
                raise BadNetwork("the tree names a part that there is not, or too many")
        pending.extend([(inner, level + 1) for inner in tree_parts(place)])


def tree_parts(tree):
    """The tuple of the trees in a tree."""
    return () if tree[0] == "part" else tree[2:]


def tree_height(tree):
    """The height of a tree, which may be as great as one likes."""
    return fold(tree, tree_parts, lambda place, heights: 1 + max(heights, default=0))


def assemble(network, *, slimming=False, limit=20000):
    """The system of a network; raises TooLarge(limit), and with slimming also TooLarge(2000)."""
    assembly = Assembly(network, slimming, limit)
    return assembly.whole()


def sizes(network, *, slimming=False, limit=20000):
    """The list of the numbers of states of all trees, in the order in which they are assembled.

    Raises what `assemble` raises.
    """
    assembly = Assembly(network, slimming, limit)
    assembly.whole()
    return assembly.counts


class Assembly:
    """Puts a network together, from the parts to the whole."""

    def __init__(self, network, slimming, limit):
        self.counts = []
        self._network = network
        self._slimming = slimming
        self._limit = limit
        # The systems of the trees that are parts, since a part may be named very often.
        self._known = {}

    def whole(self):
        """The system of the whole tree."""
        return fold(self._network.tree, tree_parts, lambda place, systems: self._result(place, systems))

    def _result(self, tree, systems):
        """The system of a tree, from those of the trees in it."""
        kind = tree[0]
        if kind == "part":
            system = self._part(tree[1])
        elif kind == "parallel":
            system = self._slimmed(side_by_side(systems[0], systems[1], tree[1], limit=self._limit))
        elif kind == "hide":
            system = self._slimmed(hidden(systems[0], tree[1]))
        else:
            system = self._slimmed(renamed(systems[0], tree[1]))
        self.counts.append(system.count)
        return system

    def _part(self, index):
        if index not in self._known:
            self._known[index] = self._slimmed(reached(self._network.parts[index]))
        return self._known[index]

    def _slimmed(self, system):
        return slim(system) if self._slimming else system


def split(script, process, *, limit=2000):
    """The network of a process; raises UnknownName, and then what `explore` raises for the parts."""
    check_known(script, process)
    found = []
    tree = fold(
        process,
        lambda place: inner_processes(script, place),
        lambda place, trees: tree_above(script, place, trees, found, limit),
    )
    return Network(found, tree)


def resolved(script, process):
    """The process of a name if it becomes a tree, otherwise the process itself."""
    body = process
    while body[0] == "name":
        body = script.body(body[1])
    return body if body[0] in KINDS_OF_TREES else process


def inner_processes(script, process):
    """The tuple of the processes whose trees stand in the tree of a process; none for a part."""
    body = resolved(script, process)
    return body[2:] if body[0] in KINDS_OF_TREES else ()


def tree_above(script, process, trees, found, limit):
    """The tree of a process, from the trees in it; the system of a part is added to those found."""
    body = resolved(script, process)
    if body[0] in KINDS_OF_TREES:
        return (body[0], body[1], *trees)
    system, _ = explore(script, process, limit=limit)
    found.append(system)
    return ("part", len(found) - 1)
