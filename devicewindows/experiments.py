"""Experiments: for a breach of a driver, events with other answers under another safe setting."""

from devicewindows.errors import BadPath
from devicewindows.kinds import integer
from devicewindows.owning import beside, owners_after, owns, row_of
from devicewindows.runs import Run
from devicewindows.settings import READING, WRITING, Setting
from devicewindows.walks import START, breach_at, check_driver, followers


def experiment(driver, path, *, pages=4, devices=("a", "b")):
    """Events for a path to its first breach, and two settings under which their answers differ."""
    check_driver(driver, pages, devices)
    owners, kind, word = _breach_of_path(driver, path)
    deeds = _deeds(driver, path)
    shown = _SHOWN[kind]
    # The writes of the path have smaller values, so this one is nowhere else.
    before, behind = shown(owners, deeds[-1], word, len(path) + 1)
    other = Setting(cached=True) if kind == "line" else Setting(copies="all")
    return deeds[:-1] + before + deeds[-1:] + behind, Setting(), other


def _breach_of_path(driver, path):
    """The owners before the breach at the end of the path, its kind and its word; refuse any value without such."""
    if not isinstance(path, list):
        raise BadPath("a path is a list")
    states = [START]
    breach = None
    for number in path:
        if breach is not None:
            raise BadPath("the path goes on behind a breach")
        states = [state for state in states if integer(number) and number == state[0]]
        if not states:
            raise BadPath("the driver does not execute these rows")
        owners = states[0][1]
        breach = breach_at(driver, states[0])
        if breach is None:
            states = followers(driver, states[0])
    if breach is None or breach[0] not in _SHOWN:
        raise BadPath("the path does not end with a breach of these kinds")
    kind, word = breach
    return owners, kind, word


def _deeds(driver, path):
    """The events of the path; each write has another value."""
    deeds = []
    for value, number in enumerate(path, start=1):
        row = driver[number]
        if row[0] == "write":
            deeds.append((*row, value))
        elif row[0] not in ("either", "go"):
            deeds.append(row)
    return deeds


# Each of these gives the events right before the breach and those behind it. Except for the one of "line", the other
# setting has copies, so that what one side writes stays where the other one does not find it.
def _of_read(owners, deed, word, value):
    return _stored(_owner(owners, word), word, value), []


def _of_write(owners, deed, word, value):
    row = _owner(owners, word)
    if row[4] in READING:
        return [], [("fetch", row[0], word)]
    return [], [_taken(row, word), ("read", word)]


def _of_line(owners, deed, word, value):
    """The cache has the device's word, too, as it was before the store, and writes it back with the line."""
    owned = beside(word)
    row = _owner(owners, owned)
    evict = ("evict", word // Run.LINE)
    return [], _stored(row, owned, value) + [evict, _taken(row, owned), ("read", owned)]


def _of_share(owners, deed, word, value):
    own = row_of(owners_after(owners, deed), deed[1])
    other = _owner(owners, word)
    for writer, reader in ((own, other), (other, own)):
        if writer[4] in WRITING and reader[4] in READING:
            return [], _stored(writer, word, value) + [("fetch", reader[0], word)]
    # No device can read. With copies the second take puts the older value over the stored one.
    return [], _stored(other, word, value) + [_taken(other, word), _taken(own, word), ("read", word)]


_SHOWN = {"read": _of_read, "write": _of_write, "line": _of_line, "share": _of_share}


def _owner(owners, word):
    """The first row whose device owns the word; if there are others before a breach, all of them have "to"."""
    return [row for row in owners if owns(row, word)][0]


def _stored(row, word, value):
    """The row's device writes the word, and this lands."""
    return [("store", row[0], word, value), ("land", row[1])]


def _taken(row, word):
    return "take", row[0], word, 1
