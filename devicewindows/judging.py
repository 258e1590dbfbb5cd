"""Which books are wrong, and how settings that are not safe let a device reach stray words."""

from devicewindows.breaches import breach_of
from devicewindows.events import do
from devicewindows.owning import is_refused
from devicewindows.settings import DIRECTIONS
from devicewindows.smallworld import START, SmallWorld


def judge(book, *, copies):
    """Whether a book is right; for a wrong one, the first fair list whose answers are not those of plain memory."""
    # For each state, the first fair list that leads to it. Lists are found in their order, shorter ones first.
    lists = {START: []}
    states = [START]
    at = 0
    while at < len(states):
        events = lists[states[at]]
        for event in _events(len(events) + 1):
            world = SmallWorld(book, copies != "none", states[at])
            if _is_fair(world, event):
                if do(world, event) is False:
                    return "wrong", events + [event]
                state = world.state()
                if state not in lists:
                    lists[state] = events + [event]
                    states.append(state)
        at += 1
    return ("right",)


def unsafe(setting):
    """Events after which the device a of a machine of four pages has a stray word, None if the setting is safe."""
    if setting.safe:
        return None
    if not setting.drain:
        # The write is still under way when its mapping is gone.
        return [("bind", "m", "a", 0, 4, "both"), ("store", "m", 0, 1), ("unbind", "m"), ("flush",)]
    # The device keeps the first table when it is free already, and b gets it. The entry of its first page leads to
    # the first mapping still, but behind it is b's second page.
    return [("bind", "m", "a", 0, 4, "both"), ("fetch", "m", 0), ("unbind", "m"), ("bind", "n", "b", 4, 8, "both")]


def _events(value):
    """The events of the small world, ascending, when the next write or store has this value."""
    binds = [("bind", "m", "a", 0, 1, direction) for direction in DIRECTIONS]
    return sorted([
        *binds, ("unbind", "m"), ("give", "m", 0, 1), ("take", "m", 0, 1),
        ("read", 0), ("read", 1), ("write", 0, value), ("write", 1, value),
        ("fetch", "m", 0), ("store", "m", 0, value), ("load", 0), ("evict", 0), ("land", "a"),
    ])


def _is_fair(world, event):
    """Whether an event may stand in a fair list next."""
    if event[0] == "store" and world.under_way("a") > 0:
        return False
    return not is_refused(world.owners(), event) and breach_of(world.owners(), event) is None
