"""Spaces of device pages, and the policies by which they answer requests."""

from devicewindows.errors import BadPolicy, NoRoom, NotTaken
from devicewindows.runs import Run


# Each choice gets the ascending holes that have at least `many` pages, one at least, and the mark of "next".
# It gives the first page of the answer.
def _first(holes, many, mark):
    return holes[0].first


def _best(holes, many, mark):
    # Of several holes of one size, min and max give the lowest.
    return min(holes, key=lambda hole: hole.many).first


def _worst(holes, many, mark):
    return max(holes, key=lambda hole: hole.many).first


def _next(holes, many, mark):
    for hole in holes:
        first = max(hole.first, mark)
        if first + many <= hole.end:
            return first
    return holes[0].first


def _halves(holes, many, mark):
    """Here many is a power of two; None if no hole has so many pages from a multiple of it on."""
    for hole in holes:
        first = (hole.first + many - 1) // many * many
        if first + many <= hole.end:
            return first
    return None


_CHOICES = {"first": _first, "best": _best, "worst": _worst, "next": _next, "halves": _halves}

POLICIES = ("first", "best", "worst", "next", "halves")


class Space:
    """The pages of a device's own addresses, each free or taken."""

    def __init__(self, pages, policy="first"):
        # Nothing tells a function from other values, so what can be no function is refused.
        if policy is None or isinstance(policy, (int, str, list, tuple)) and policy not in POLICIES:
            raise BadPolicy("a policy is one of the five words or a function")
        self._pages = pages
        self._policy = policy
        self._mark = 0
        # For the first page of each run that is not given back: how many pages it has.
        self._taken = {}

    @property
    def free(self):
        """The number of free pages."""
        return self._pages - sum(self._taken.values())

    @property
    def mark(self):
        """Where "next" begins to look, 0 for other policies."""
        return self._mark

    # Not a generator, as none may share its name with another method, and Machine has one of this name.
    def holes(self):
        """The holes, ascending."""
        return holes_of(self._taken, self._pages)

    def take(self, many):
        """A run of free pages by the policy; they are taken now."""
        run = self.choose(many)
        self.occupy(run)
        return run

    def choose(self, many):
        """The run that a request for so many pages is answered with; nothing is taken yet."""
        if isinstance(self._policy, str):
            run = answer_of(self._policy, self.holes(), many, self._mark)
        else:
            run = self._asked(many)
        if run is None:
            raise NoRoom(many)
        return run

    def occupy(self, run):
        """Take the pages of a run that was chosen."""
        self._taken[run.first] = run.many
        if self._policy == "next":
            self._mark = run.end

    def give_back(self, run):
        """The pages of an answered run are free again."""
        if not isinstance(run, Run) or self._taken.get(run.first) != run.many:
            raise NotTaken("this run was not answered, or is given back already")
        del self._taken[run.first]

    def _asked(self, many):
        """The run at the beginning of the hole that the function chooses, None if there is no such hole."""
        holes = [hole for hole in self.holes() if hole.many >= many]
        if not holes:
            return None
        policy = self._policy
        # The function may change its list.
        hole = policy(list(holes), many)
        if hole not in holes:
            raise BadPolicy("the function returned none of the holes")
        return Run(hole.first, many)


def holes_of(taken, pages):
    """The holes of so many pages, ascending; taken has for each taken run's first page how many it has."""
    found = []
    end = 0
    for first in sorted(taken):
        if end < first:
            found.append(Run.between(end, first))
        end = first + taken[first]
    if end < pages:
        found.append(Run.between(end, pages))
    return found


def size_of(policy, many):
    """How many pages one of the five policies takes for a request."""
    if policy == "halves":
        return _power(many)
    return many


def answer_of(policy, holes, many, mark):
    """The run with which one of the five policies answers a request, None if it is refused."""
    size = size_of(policy, many)
    great = [hole for hole in holes if hole.many >= size]
    if not great:
        return None
    choice = _CHOICES[policy]
    first = choice(great, size, mark)
    if first is None:
        return None
    return Run(first, size)


def _power(many):
    """The least power of two that is not less than many."""
    size = 1
    while size < many:
        size = size * 2
    return size
