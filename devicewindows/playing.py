"""Events that are played by a machine, or answered by plain memory."""

from devicewindows.breaches import breach_of
from devicewindows.errors import BadEvent, Busy, Full, NoDevice, NoMapping, NoRoom, NoTable, WindowError
from devicewindows.events import do, is_event
from devicewindows.machine import Machine
from devicewindows.runs import Run


def play(events, *, setting=None, pages=4, devices=("a", "b"), calm=False):
    """The answers of a new machine; calm tells which events are done within `with machine:`."""
    machine = Machine(pages, devices, setting)
    first, end = _calm_part(calm, len(events))
    answers = _answers(machine, events, 0, first)
    with machine:
        answers.extend(_answers(machine, events, first, end))
    answers.extend(_answers(machine, events, end, len(events)))
    return answers


def plain(events, *, pages=4, devices=("a", "b")):
    """The answers of plain memory."""
    _owners_before(events, pages, devices)
    words = [0] * (Run.PAGE * pages)
    answers = []
    for event in events:
        answers.append(_plain_answer(words, event))
    return answers


def first_breach(events, *, pages=4, devices=("a", "b")):
    """The tuple (index, kind, word) of the first breach, None if there is none."""
    before = _owners_before(events, pages, devices)
    for index, owners in enumerate(before):
        found = breach_of(owners, events[index])
        if found is not None:
            kind, word = found
            return index, kind, word
    return None


def _calm_part(calm, many):
    """The indexes from which on, and below which, events are done within `with machine:`."""
    if calm is True:
        return 0, many
    if calm is False:
        return 0, 0
    first, end = calm
    first = min(max(first, 0), many)
    return first, min(max(first, end), many)


def _answers(machine, events, first, end):
    """The results of the events from first to below end."""
    return [_answer(machine, events, index) for index in range(first, end)]


def _answer(machine, events, index):
    event = events[index]
    if not is_event(event, len(machine.memory()) // Run.PAGE):
        raise BadEvent(index)
    try:
        return do(machine, event)
    except (WindowError, NoMapping, NoDevice, Busy, Full, NoRoom, NoTable):
        raise BadEvent(index) from None


def _owners_before(events, pages, devices):
    """The owners before each event, as all events are done by the standard setting."""
    machine = Machine(pages, devices)
    before = []
    for index, event in enumerate(events):
        if isinstance(event, tuple) and event and event[0] in ("peek", "poke"):
            raise BadEvent(index)
        before.append(machine.owners())
        _answer(machine, events, index)
    return before


def _plain_answer(words, event):
    if event[0] == "read":
        return words[event[1]]
    if event[0] == "fetch":
        return words[event[2]]
    if event[0] == "write":
        words[event[1]] = event[2]
    if event[0] == "store":
        words[event[2]] = event[3]
        return True
    return None
