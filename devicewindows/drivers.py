"""Which drivers are careful: no path of theirs has a breach."""

from devicewindows.errors import TooMany
from devicewindows.walks import START, breach_at, check_driver, followers

_MOST_STATES = 4000


def look(driver, *, pages=4, devices=("a", "b")):
    """All states of a careful driver, or the shortest path to a breach, its kind and its word."""
    check_driver(driver, pages, devices)
    # Each state has the one before it on its first path. Paths are found in their order, shorter ones first.
    before = {START: None}
    states = [START]
    broken = []
    at = 0
    while at < len(states):
        state = states[at]
        if breach_at(driver, state) is not None:
            broken.append(state)
        else:
            for follower in followers(driver, state):
                if follower not in before:
                    before[follower] = state
                    states.append(follower)
        if len(states) > _MOST_STATES:
            raise TooMany(_MOST_STATES)
        at += 1
    if not broken:
        return "careful", sorted(states)
    kind, word = breach_at(driver, broken[0])
    return "breach", _path(before, broken[0]), kind, word


def _path(before, state):
    """The numbers of the rows up to this state's row."""
    path = []
    while state is not None:
        path.append(state[0])
        state = before[state]
    return path[::-1]
