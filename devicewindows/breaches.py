"""The rules under which events have the answers of plain memory."""

from devicewindows.owning import beside, owns, row_of
from devicewindows.settings import DIRECTIONS, READING, WRITING


def _of_bind(owners, event):
    _, _, _, first, many, direction = event
    return _shared(owners, list(range(first, first + many)), direction)


def _of_give(owners, event):
    _, name, first, many = event
    own = row_of(owners, name)
    # Words that the device owns already stay as they are, so those of other mappings are left.
    words = [word for word in range(first, first + many) if not owns(own, word)]
    return _shared(owners, words, own[4])


def _of_read(owners, event):
    if _is_owned(owners, event[1], WRITING):
        return "read", event[1]
    return None


def _of_write(owners, event):
    word = event[1]
    if _is_owned(owners, word, DIRECTIONS):
        return "write", word
    if _is_owned(owners, beside(word), WRITING):
        return "line", word
    return None


def _of_fetch(owners, event):
    return _of_device(owners, event, READING)


def _of_store(owners, event):
    return _of_device(owners, event, WRITING)


_RULES = {
    "bind": _of_bind, "give": _of_give, "read": _of_read, "write": _of_write, "fetch": _of_fetch, "store": _of_store,
}


def breach_of(owners, event):
    """The breach (kind, word) that an event is, None if it is none; owners are those before the event."""
    rule = _RULES.get(event[0])
    if rule is None:
        return None
    return rule(owners, event)


def _shared(owners, words, direction):
    """The breach that a device would own one of these words with the direction, too."""
    for word in words:
        for row in owners:
            if owns(row, word) and not (direction == "to" and row[4] == "to"):
                return "share", word
    return None


def _of_device(owners, event, directions):
    row = row_of(owners, event[1])
    if owns(row, event[2]) and row[4] in directions:
        return None
    return "device", event[2]


def _is_owned(owners, word, directions):
    """Whether a device owns the word in a mapping with one of the directions."""
    return any([row[4] in directions and owns(row, word) for row in owners])
