"""Where formulas hold."""

from parley.behaviours import after, closure
from parley.errors import BadArgument
from parley.formulas import formula_parts
from parley.marking import Marker
from parley.processes import fold


def soft_targets(system, state, action):
    """The ascending tuple of the states to which soft steps with an action lead from a state."""
    states = closure(system, [state])
    return states if action == "tau" else after(system, states, action)


def states_with(system, formula):
    """The ascending tuple of the states at which a formula holds."""
    marker = Marker(system)
    return marker.states(mark_of(marker, formula))


def holds(system, state, formula):
    """Whether a formula holds at a state; raises BadArgument if there is no such state."""
    if not 0 <= state < system.count:
        raise BadArgument("there is no such state")
    return mark_of(Marker(system), formula) >> state & 1 == 1


def satisfies(system, formula):
    """Whether a formula holds at state 0."""
    return holds(system, 0, formula)


def mark_of(marker, formula):
    """The mark of the states at which a formula holds."""
    return fold(formula, formula_parts, lambda place, inner: marker.mark(place, inner))
