"""Numbers for processes."""

from parley.processes import fold, parts, with_parts
from parley.writing import written

# Longer texts are made again whenever they are asked for: the texts of all parts of a long chain
# of processes would fill the memory.
LONGEST_KEPT = 2000


class Pool:
    """Gives each process a number of its own, since deep tuples are no good keys.

    A row is a process with the numbers of its parts in the places of the parts.
    """

    def __init__(self):
        self.rows = []
        self.processes = []
        self._numbers = {}
        self._texts = {}

    def number(self, row):
        """The number of the process of a row."""
        if row not in self._numbers:
            self._numbers[row] = len(self.rows)
            self.rows.append(row)
            self.processes.append(with_parts(row, [self.processes[part] for part in parts(row)]))
        return self._numbers[row]

    def number_of(self, process):
        """The number of a process."""
        return fold(process, parts, lambda place, inner: self.number(with_parts(place, inner)))

    def text_of(self, number):
        """The text of the process with a number."""
        return fold(
            number,
            lambda place: self.unwritten(place),
            lambda place, texts: self.text_over(place, texts),
        )

    def unwritten(self, number):
        """The parts whose texts are needed for that of the process with a number."""
        return () if number in self._texts else parts(self.rows[number])

    def text_over(self, number, texts):
        """The text of the process with a number, from those of its parts where they are needed."""
        if number in self._texts:
            return self._texts[number]
        row = self.rows[number]
        text = written(row, [self.rows[part][0] for part in parts(row)], texts)
        if len(text) <= LONGEST_KEPT:
            self._texts[number] = text
        return text
