"""Runs of consecutive words, lines or pages, and how they are cut into segments."""

from devicewindows.errors import BadRun
from devicewindows.kinds import whole

_MOST = 10 ** 12


class Run:
    """The `many` consecutive words (or lines, or pages) from `first` on."""

    LINE = 2
    PAGE = 4

    def __init__(self, first, many):
        if not whole(first, 0, _MOST) or not whole(many, 1, _MOST):
            raise BadRun("a run has a first word from 0 and at least one word, both at most 10 ** 12")
        self.first = first
        self.many = many

    @staticmethod
    def of_page(page):
        """The words of a page."""
        return Run(Run.PAGE * page, Run.PAGE)

    @classmethod
    def between(cls, first, end):
        """The run from first to below end."""
        if not whole(first, 0, _MOST) or not whole(end, 1, 2 * _MOST):
            raise BadRun("a run lies between two integers")
        return cls(first, end - first)

    @property
    def end(self):
        """The word behind the last one."""
        return self.first + self.many

    def __eq__(self, other):
        return isinstance(other, Run) and self.first == other.first and self.many == other.many

    def __contains__(self, x):
        return whole(x, self.first, self.end - 1)

    def __and__(self, other):
        first = max(self.first, other.first)
        end = min(self.end, other.end)
        if first < end:
            return Run(first, end - first)
        return None

    def __len__(self):
        return len(range(self.many))

    def __repr__(self):
        return f"Run({self.first}, {self.many})"

    def words(self):
        """Each word, ascending."""
        for word in range(self.first, self.end):
            yield word

    def touched_lines(self):
        """The run of the lines in which the words are."""
        return self._touched(Run.LINE)

    def touched_pages(self):
        """The run of the pages in which the words are."""
        return self._touched(Run.PAGE)

    def _touched(self, size):
        return Run.between(self.first // size, (self.end - 1) // size + 1)


def segments(runs, *, longest, boundary=None):
    """The runs, cut in their order into as few runs as possible.

    No segment has more than `longest` words, or words on both sides of a multiple of `boundary`.
    """
    cut = []
    # A stretch without words to start with: it gives no segment, whatever comes next.
    first = end = 0
    for run in runs:
        if run.first != end:
            cut.extend(_pieces(first, end, longest, boundary))
            first = run.first
        end = run.end
    cut.extend(_pieces(first, end, longest, boundary))
    return cut


def _pieces(first, end, longest, boundary):
    """The segments of the words from first to below end."""
    cut = []
    while first < end:
        stop = min(end, first + longest)
        if boundary is not None:
            stop = min(stop, (first // boundary + 1) * boundary)
        cut.append(Run.between(first, stop))
        first = stop
    return cut
