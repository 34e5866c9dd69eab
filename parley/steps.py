"""The steps of processes."""

from parley.stepping import Stepper, check_known


def steps(script, process):
    """The list of the steps of a process, as pairs of an action and a process.

    Raises UnknownName, and then TooLarge(2000).
    """
    check_known(script, process)
    stepper = Stepper(script)
    found = stepper.ordered(stepper.pool.number_of(process))
    return [(action, stepper.pool.processes[target]) for action, target in found]


def can_do(script, process):
    """The ascending list of the actions of the steps of a process."""
    return sorted(set([action for action, _ in steps(script, process)]))
