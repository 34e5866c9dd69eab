"""Scripts: sound lists of definitions."""

from parley.errors import UnknownName
from parley.soundness import check_sound


class Script:
    """Definitions of processes that can be stepped."""

    def __init__(self, definitions):
        self.definitions = tuple(definitions)
        check_sound(self.definitions)
        self._bodies = {name: process for name, process in self.definitions}

    def body(self, name):
        """The process that a name stands for."""
        if name not in self._bodies:
            raise UnknownName(name)
        return self._bodies[name]
