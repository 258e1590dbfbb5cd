"""Events: tuples for the calls of a machine."""

from devicewindows.kinds import integer, whole
from devicewindows.runs import Run

_MOST = 10 ** 12 - 1


def _bind(machine, name, device, first, many, direction):
    machine.bind(name, device, Run(first, many), direction)


def _unbind(machine, name):
    machine.unbind(name)


def _give(machine, name, first, many):
    machine.give(name, Run(first, many))


def _take(machine, name, first, many):
    machine.take(name, Run(first, many))


def _read(machine, word):
    return machine.read(word)


def _write(machine, word, value):
    machine.write(word, value)


def _fetch(machine, name, word):
    return machine.fetch(name, word)


def _store(machine, name, word, value):
    return machine.store(name, word, value)


def _peek(machine, device, address):
    return machine.peek(device, address)


def _poke(machine, device, address, value):
    return machine.poke(device, address, value)


def _load(machine, line):
    machine.load(line)


def _evict(machine, line):
    machine.evict(line)


def _land(machine, device):
    machine.land(device)


def _flush(machine):
    machine.flush()


_ACTIONS = {
    "bind": _bind, "unbind": _unbind, "give": _give, "take": _take, "read": _read, "write": _write, "fetch": _fetch,
    "store": _store, "peek": _peek, "poke": _poke, "load": _load, "evict": _evict, "land": _land, "flush": _flush,
}

_LENGTHS = {
    "bind": 6, "unbind": 2, "give": 4, "take": 4, "read": 2, "write": 3, "fetch": 3,
    "store": 4, "peek": 3, "poke": 4, "load": 2, "evict": 2, "land": 2, "flush": 1,
}


def is_event(event, pages):
    """Whether any value is an event, as far as the calls themselves raise no error for it."""
    if not isinstance(event, tuple) or not event or not isinstance(event[0], str):
        return False
    word = event[0]
    if _LENGTHS.get(word) != len(event):
        return False
    if word in ("write", "store", "poke") and not _is_value(event[-1]):
        return False
    if word in ("peek", "poke") and not _is_address(event[2]):
        return False
    if word in ("load", "evict"):
        return whole(event[1], 0, Run.PAGE * pages // Run.LINE - 1)
    return True


def do(machine, event):
    """The result of the machine's call."""
    action = _ACTIONS[event[0]]
    rest = event[1:]
    return action(machine, *rest)


def _is_value(value):
    return whole(value, -_MOST, _MOST)


def _is_address(value):
    return integer(value) and value >= 0
