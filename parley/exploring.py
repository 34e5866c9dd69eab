"""The systems of processes."""

from parley.numbering import numbered
from parley.stepping import Stepper, check_known
from parley.systems import System


def explore(script, process, *, limit=2000):
    """The system of the states of a process, and the list of the processes that they are.

    Raises UnknownName, and then TooLarge(2000) or TooLarge(limit).
    """
    check_known(script, process)
    stepper = Stepper(script)
    start = stepper.pool.number_of(process)
    states, edges = numbered(start, lambda number: stepper.ordered(number), limit)
    return System(len(states), edges), [stepper.pool.processes[number] for number in states]
