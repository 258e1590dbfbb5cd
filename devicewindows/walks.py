"""Drivers: lists of rows, and how paths walk over them.

A state is a tuple (row, owners): the number of the row that is about to be executed, and the owners by then.
"""

from devicewindows.breaches import breach_of
from devicewindows.errors import BadDriver
from devicewindows.kinds import is_name, whole
from devicewindows.mappings import LONGEST
from devicewindows.owning import is_refused, owners_after
from devicewindows.runs import Run
from devicewindows.settings import DIRECTIONS

START = (0, ())

_MOST_ROWS = 24

_LENGTHS = {"bind": 6, "unbind": 2, "give": 4, "take": 4, "read": 2, "write": 2, "either": 2, "go": 2, "end": 1}


def check_driver(driver, pages, devices):
    """Refuse any value that is no driver."""
    if not isinstance(driver, list) or len(driver) > _MOST_ROWS:
        raise BadDriver(None)
    for index, row in enumerate(driver):
        if not _is_row(row, len(driver), pages, devices):
            raise BadDriver(index)


def breach_at(driver, state):
    """The breach (kind, word) that the row of this state is, None if it is none or the path has ended."""
    number, owners = state
    if number == len(driver):
        return None
    if is_refused(owners, driver[number]):
        return "refused", None
    return breach_of(owners, driver[number])


def followers(driver, state):
    """The ascending list of the states behind this one, whose row is no breach."""
    number, owners = state
    if number == len(driver):
        return []
    row = driver[number]
    if row[0] == "end":
        return [(len(driver), owners)]
    if row[0] == "go":
        return [(row[1], owners)]
    if row[0] == "either":
        return [(goal, owners) for goal in sorted({number + 1, row[1]})]
    return [(number + 1, owners_after(owners, row))]


def _is_row(row, many, pages, devices):
    """Whether any value is a row of a driver that has so many rows."""
    if not isinstance(row, tuple) or not row or not isinstance(row[0], str):
        return False
    word = row[0]
    if _LENGTHS.get(word) != len(row):
        return False
    if word == "bind":
        _, name, device, first, size, direction = row
        return is_name(name) and device in devices and _is_run(first, size, pages) and direction in DIRECTIONS
    if word in ("give", "take"):
        return is_name(row[1]) and _is_run(row[2], row[3], pages)
    if word == "unbind":
        return is_name(row[1])
    if word in ("read", "write"):
        return whole(row[1], 0, Run.PAGE * pages - 1)
    if word in ("either", "go"):
        return whole(row[1], 0, many)
    return True


def _is_run(first, many, pages):
    """Whether any two values give a run of at most 16 words in memory."""
    return whole(many, 1, LONGEST) and whole(first, 0, Run.PAGE * pages - many)
