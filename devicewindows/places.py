"""Where entries lead to: pages of memory, and copies of such."""

from devicewindows.runs import Run


class Place:
    """Four words: those of a page of memory, or those of a copy of it.

    They are the cells from `base` on. `seen` is the run of the words of memory that count as reached here.
    """

    def __init__(self, page, cells, base, seen, copied):
        self.seen = seen
        self.copied = copied
        self._page = page
        self._cells = cells
        self._base = base

    @staticmethod
    def of_memory(memory, page):
        """The page itself; the place changes this very memory."""
        return Place(page, memory, Run.PAGE * page, Run.of_page(page), False)

    @staticmethod
    def of_copy(page, seen):
        """A new copy of the page, all words 0."""
        return Place(page, [0] * Run.PAGE, 0, seen, True)

    def word(self, offset):
        """The word of memory that is meant by the one at the offset."""
        return Run.PAGE * self._page + offset

    def read(self, offset):
        """The value at the offset."""
        return self._cells[self._base + offset]

    def write(self, offset, value):
        """Replace the value at the offset."""
        self._cells[self._base + offset] = value
