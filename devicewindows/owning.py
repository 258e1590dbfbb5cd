"""Owners: which words the devices own in all bound mappings, and how deeds change this.

Each row is (name, device, first, many, direction, marks); the rows are ascending.
"""

from devicewindows.mappings import MOST_BOUND
from devicewindows.runs import Run

_ON_MAPPINGS = ("unbind", "give", "take", "fetch", "store")


def row_of(owners, name):
    """The row of the mapping that is called so, None if it is not bound."""
    for row in owners:
        if row[0] == name:
            return row
    return None


def owns(row, word):
    """Whether the device of this row owns the word."""
    _, _, first, many, _, marks = row
    return first <= word < first + many and marks[word - first] == "d"


def beside(word):
    """The other word of this word's line."""
    return Run.LINE * (word // Run.LINE) + 1 - word % Run.LINE


def is_refused(owners, deed):
    """Whether a machine with the standard setting refuses a deed whose names, words and runs are as described."""
    if deed[0] == "bind":
        # Four mappings always find room and tables there, so no more is asked for.
        return len(owners) >= MOST_BOUND or row_of(owners, deed[1]) is not None
    if deed[0] not in _ON_MAPPINGS:
        return False
    row = row_of(owners, deed[1])
    if row is None:
        return True
    if deed[0] in ("give", "take"):
        _, _, first, many = deed
        return first < row[2] or first + many > row[2] + row[3]
    return False


def _bound(owners, deed):
    _, name, device, first, many, direction = deed
    return tuple(sorted([*owners, (name, device, first, many, direction, "d" * many)]))


def _unbound(owners, deed):
    return tuple([row for row in owners if row[0] != deed[1]])


def _given(owners, deed):
    return _handed(owners, deed, "d")


def _taken(owners, deed):
    return _handed(owners, deed, "p")


_CHANGES = {"bind": _bound, "unbind": _unbound, "give": _given, "take": _taken}


def owners_after(owners, deed):
    """The owners after a deed that is not refused."""
    change = _CHANGES.get(deed[0])
    if change is None:
        return owners
    return change(owners, deed)


def _handed(owners, deed, letter):
    """The owners when all words of the part are marked with the letter."""
    _, name, first, many = deed
    return tuple([_marked(row, first, many, letter) if row[0] == name else row for row in owners])


def _marked(row, first, many, letter):
    at = first - row[2]
    marks = row[5]
    return row[:5] + (marks[:at] + letter * many + marks[at + many:],)
