"""The lines that the processor's cache holds."""

from devicewindows.runs import Run


class Lines:
    """A cache over `words`; this very list is its memory, and is changed."""

    def __init__(self, words):
        self._memory = words
        # Both have the held lines as their keys.
        self._values = {}
        self._dirty = {}

    @property
    def held(self):
        """The ascending tuple of (line, whether it is dirty)."""
        return tuple(sorted(self._dirty.items()))

    def read(self, word):
        """The value of a word, as the processor sees it."""
        line = word // Run.LINE
        self.load(line)
        return self._values[line][word % Run.LINE]

    def write(self, word, value):
        """Replace the value in the held line; memory stays as it is."""
        line = word // Run.LINE
        self.load(line)
        self._values[line][word % Run.LINE] = value
        self._dirty[line] = True

    def load(self, line):
        """Hold the line; one that is held already stays as it is."""
        if line not in self._values:
            first = line * Run.LINE
            self._values[line] = self._memory[first:first + Run.LINE]
            self._dirty[line] = False

    def clean(self, line):
        """Write the held values of a dirty line to memory."""
        if self._dirty.get(line, False):
            first = line * Run.LINE
            self._memory[first:first + Run.LINE] = self._values[line]
            self._dirty[line] = False

    def drop(self, line):
        """Hold the line no longer, and write nothing."""
        self._values.pop(line, None)
        self._dirty.pop(line, None)

    def evict(self, line):
        """Clean the line, then drop it."""
        self.clean(line)
        self.drop(line)
