"""The small world in which books are judged, as far as its answers go."""

from devicewindows.runs import Run

# No mapping, all words 0, no line is held, no write is under way.
START = (None, False, (True, True), None, False, False, False, True)


class SmallWorld:
    """A machine of one page with the device a and the mapping m of the word 0, and plain memory beside it.

    It is called like a machine. A write or store brings a value that was nowhere before, so that an old value never
    is right again. Therefore the world has no values: each place tells of each word only whether its value is right,
    the one of plain memory. read and fetch answer this, too.
    """

    def __init__(self, book, copied, state):
        direction, owned, memory, line, dirty, copy, coming, blank = state
        self._book = book
        self._copied = copied
        # The direction of the mapping, None if it is not bound, and whether the device owns the word.
        self._direction = direction
        self._owned = owned
        self._memory = list(memory)
        # What the cache holds, None if nothing.
        self._line = None if line is None else list(line)
        self._dirty = dirty
        self._copy = copy
        # Whether a write is under way: its value is right, as nobody but the device may write meanwhile.
        self._coming = coming
        # Whether 0 is right for the word 0.
        self._blank = blank

    def state(self):
        """All that the world is, to go on from it."""
        line = None if self._line is None else tuple(self._line)
        return (self._direction, self._owned, tuple(self._memory), line, self._dirty, self._copy, self._coming,
                self._blank)

    def owners(self):
        """The owners, as of a machine."""
        if self._direction is None:
            return ()
        return (("m", "a", 0, 1, self._direction, "d" if self._owned else "p"),)

    def under_way(self, device):
        """The number of writes under way."""
        return 1 if self._coming else 0

    # The driver's deeds. The arguments are always the same ones, but for the direction.

    def bind(self, name, device, run, direction):
        """Make the mapping."""
        self._direction = direction
        # A new copy is 0.
        self._copy = self._copied and self._blank
        self._hand_over(self._book.bind_copied)

    def unbind(self, name):
        """Take the word; the mapping is gone."""
        self._take_back()
        self._direction = None
        self._copy = False

    def give(self, name, part):
        """Hand the word to the device."""
        if not self._owned:
            self._hand_over(self._book.give_copied)

    def take(self, name, part):
        """Hand the word to the processor."""
        self._take_back()

    # What the processor and its cache do.

    def read(self, word):
        """Whether the answer is right."""
        self.load(0)
        return self._line[word]

    def write(self, word, value):
        """The new value is in the held line alone."""
        self.load(0)
        self._outdate(word)
        self._line[word] = True
        self._dirty = True

    def load(self, line):
        """Hold the line."""
        if self._line is None:
            self._line = list(self._memory)

    def evict(self, line):
        """Clean the line, then drop it."""
        self._clean()
        self._drop()

    # What the device does.

    def fetch(self, name, word):
        """Whether the answer is right."""
        self.land("a")
        return self._copy if self._copied else self._memory[0]

    def store(self, name, word, value):
        """The new value is under way."""
        self._outdate(0)
        self._coming = True

    def land(self, device):
        """The write lands, if there is one."""
        if self._coming:
            self._coming = False
            if self._copied:
                self._copy = True
            else:
                self._memory[0] = True

    # How the deeds are done.

    def _hand_over(self, copied):
        if not self._copied:
            if self._direction in self._book.cleaned:
                self._clean()
        elif self._direction in copied:
            self._copy = self.read(0)
        self._owned = True

    def _take_back(self):
        self.land("a")
        if self._owned:
            if not self._copied:
                if self._direction in self._book.dropped:
                    self._drop()
            elif self._direction in self._book.take_copied:
                self.evict(0)
                self._memory[0] = self._copy
        self._owned = False

    def _clean(self):
        if self._line is not None and self._dirty:
            self._memory = list(self._line)
            self._dirty = False

    def _drop(self):
        self._line = None
        self._dirty = False

    def _outdate(self, word):
        """The word has a new value, so that none of the old ones is right."""
        self._memory[word] = False
        if self._line is not None:
            self._line[word] = False
        if word == 0:
            self._copy = False
            self._blank = False
