"""Walks from state to state."""

from parley.errors import BadArgument
from parley.stepping import check_known
from parley.steps import steps


class Walk:
    """A walk that begins at a process of a script and can be taken back."""

    def __init__(self, script, process):
        check_known(script, process)
        self._script = script
        self._places = [process]
        self._actions = []

    @property
    def place(self):
        """The process at which the walk is."""
        return self._places[-1]

    @property
    def actions(self):
        """The actions of the steps that were taken and not taken back."""
        return tuple(self._actions)

    @property
    def trace(self):
        """The actions without "tau"."""
        return tuple([action for action in self._actions if action != "tau"])

    def choices(self):
        """The steps from the place; raises TooLarge(2000)."""
        return steps(self._script, self._places[-1])

    def take(self, index):
        """Takes the step with an index and returns its action; raises TooLarge and BadArgument."""
        found = self.choices()
        if not 0 <= index < len(found):
            raise BadArgument("there is no such step")
        action, target = found[index]
        self._go(action, target)
        return action

    def follow(self, action):
        """Takes the first step with an action; returns False if there is none."""
        for found, target in self.choices():
            if found == action:
                self._go(action, target)
                return True
        return False

    def back(self):
        """Takes the last step back; returns False if there is none."""
        if not self._actions:
            return False
        self._actions.pop()
        self._places.pop()
        return True

    def _go(self, action, target):
        self._actions.append(action)
        self._places.append(target)
