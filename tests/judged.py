"""The small world of point 14 told once more, by a model of the machine that is copied for each event."""

import copy

from devicewindows.settings import Setting
from tests.model import ModelMachine

READS = ("to", "both")
WRITES = ("from", "both")


class Fair:
    """A fair list, the model that has played it, and plain memory."""

    def __init__(self, book, copies):
        self.events = []
        self.model = ModelMachine(1, ["a"], Setting(copies=copies, cached=True, book=book))
        self.plain = [0, 0]

    def owner(self):
        """The direction of the mapping, and whether the device owns its word."""
        owners = self.model.owners()
        return (owners[0][4], owners[0][5] == "d") if owners else (None, False)

    def next_events(self):
        """The events, in the order of lists, with which the list is fair, too."""
        value = len(self.events) + 1
        direction, owned = self.owner()
        found = [("evict", 0), ("land", "a"), ("load", 0), ("read", 1)]
        if direction is None:
            found += [("bind", "m", "a", 0, 1, word) for word in ("to", "from", "both")]
        else:
            found += [("give", "m", 0, 1), ("take", "m", 0, 1), ("unbind", "m")]
        if owned and direction in READS:
            found.append(("fetch", "m", 0))
        if owned and direction in WRITES and not self.model.flying["a"]:
            found.append(("store", "m", 0, value))
        if not (owned and direction in WRITES):
            found += [("read", 0), ("write", 1, value)]
        if not owned:
            found.append(("write", 0, value))
        return sorted(found)

    def after(self, event):
        """The list with one more event, and whether its answer is that of plain memory."""
        made = copy.deepcopy(self)
        made.events.append(event)
        answer = getattr(made.model, event[0])(*event[1:])
        if event[0] == "write":
            made.plain[event[1]] = event[2]
        if event[0] == "store":
            made.plain[0] = event[3]
        if event[0] == "read":
            return made, answer == made.plain[event[1]]
        return made, event[0] != "fetch" or answer == made.plain[0]

    def key(self):
        """What tells the lists apart whose future may differ: no value comes again, but for the first 0."""
        right = [self.model.words[word] == self.plain[word] for word in (0, 1)]
        line = self.model.cache.get(0)
        if line is not None:
            line = line[0] == self.plain[0], line[1] == self.plain[1], line[2]
        places = self.model.bound["m"]["places"] if self.model.bound else {}
        copied = [place.words[0] == self.plain[0] for place in places.values() if place != 0]
        flying = [value == self.plain[0] for _, _, value in self.model.flying["a"]]
        return self.owner(), tuple(right), line, tuple(copied), tuple(flying), self.plain[0] == 0


def first_wrong(book, copies, longest=None):
    """The first one of the shortest fair lists with a wrong answer, None if there is none.

    With a longest length all lists up to it are tried; without it, one for each key.
    """
    lists, seen = [Fair(book, copies)], {}
    for fair in lists:
        for event in fair.next_events():
            made, right = fair.after(event)
            if not right:
                return made.events
            if longest is not None and len(made.events) < longest or longest is None and made.key() not in seen:
                seen[made.key()] = True
                lists.append(made)
    return None
