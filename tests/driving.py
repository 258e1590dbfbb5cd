"""What the tests of drivers share: drivers told once more by real machines, and drivers at random."""

from devicewindows.drivers import look
from devicewindows.errors import BadEvent, TooMany
from devicewindows.machine import Machine
from devicewindows.playing import first_breach
from tests.machines import do

CONTROL = ("either", "go", "end")


def deeds(driver, path):
    """The events of a path; each write has another value."""
    events = []
    for value, number in enumerate(path, start=1):
        row = driver[number]
        if row[0] == "write":
            events.append((*row, value))
        elif row[0] not in CONTROL:
            events.append(row)
    return events


def goals(driver, number):
    """The rows, ascending, at which the driver may go on behind this one."""
    word, *rest = driver[number]
    if word == "end":
        return [len(driver)]
    if word == "go":
        return rest
    if word == "either":
        return sorted({number + 1, *rest})
    return [number + 1]


def breach(driver, path, pages=4, devices=("a", "b")):
    """The first breach of a path, as the events of the path have it, if that is at the path's last row."""
    events = deeds(driver, path)
    try:
        found = first_breach(events, pages=pages, devices=devices)
    except BadEvent as error:
        assert error.index == len(events) - 1
        return "refused", None
    if found is None:
        return None
    assert found[0] == len(events) - 1
    return found[1:]


def owners_before(driver, path, pages=4, devices=("a", "b")):
    """The owners when the path's last row is about to be executed."""
    machine = Machine(pages, devices)
    for event in deeds(driver, path[:-1]):
        do(machine, event)
    return machine.owners()


def all_states(driver, pages=4, devices=("a", "b")):
    """All states of a driver, by machines that do the deeds of paths; paths end at their first breach."""
    found, paths = {}, [[0]]
    while paths:
        path = paths.pop()
        state = path[-1], owners_before(driver, path, pages, devices)
        if state not in found:
            found[state] = True
            if path[-1] < len(driver) and breach(driver, path, pages, devices) is None:
                paths += [path + [goal] for goal in goals(driver, path[-1])]
    return sorted(found)


def first_broken(driver, longest, pages=4, devices=("a", "b")):
    """The first one of the shortest paths to a breach, its kind and word, None if there is none of at most longest."""
    paths = [[0]] if driver else []
    for _ in range(longest):
        # All paths of one length, in the order of lists.
        for path in paths:
            found = breach(driver, path, pages, devices)
            if found is not None:
                return path, *found
        paths = [path + [goal] for path in paths for goal in goals(driver, path[-1]) if goal < len(driver)]
    return None


def some_deed(dice, pages, devices):
    """A row with few words and names, so that rows have to do with each other."""
    name = dice.choice(["m", "m", "n", "k"])
    first = dice.randint(0, 3)
    many = min(dice.randint(1, 3), 4 * pages - first)
    kind = dice.choice(["bind", "bind", "unbind", "give", "take", "take", "read", "write"])
    return {
        "bind": (kind, name, dice.choice(devices), first, many, dice.choice(["to", "to", "from", "both"])),
        "unbind": (kind, name), "give": (kind, name, first, many), "take": (kind, name, first, many),
        "read": (kind, first), "write": (kind, first),
    }[kind]


def some_row(dice, many, pages, devices):
    if dice.random() < 0.25:
        kind = dice.choice(["either", "either", "either", "either", "either", "go", "end"])
        return (kind,) if kind == "end" else (kind, dice.randint(0, many))
    return some_deed(dice, pages, devices)


def some_driver(dice, many, pages=4, devices=("a", "b")):
    """A driver of at least one row; most begin with a bind."""
    rows = [some_row(dice, many, pages, devices) for _ in range(many)]
    if dice.random() < 0.7:
        first = dice.randint(0, 2)
        rows[0] = "bind", "m", dice.choice(devices), first, 2, dice.choice(["to", "from", "both"])
    return rows


def repaired_driver(dice, many, pages, devices, kinds):
    """A driver that has no breach of these kinds, made from any by replacing the rows that are such."""
    while True:
        driver = some_driver(dice, many, pages, devices)
        for _ in range(60):
            try:
                found = look(driver, pages=pages, devices=devices)
            except TooMany:
                break
            if found[0] == "careful" or found[2] not in kinds:
                return driver
            driver[found[1][-1]] = some_deed(dice, pages, devices)


def lively_driver(dice, many, pages=4, devices=("a", "b")):
    """A driver whose first breach, if there is any, tells of owners."""
    return repaired_driver(dice, many, pages, devices, ("refused",))


def careful_driver(dice, many, pages=4, devices=("a", "b")):
    """A driver without a breach that binds something and executes most of its rows."""
    while True:
        driver = repaired_driver(dice, many, pages, devices, ("refused", "read", "write", "line", "share"))
        states = look(driver, pages=pages, devices=devices)[1]
        if any(owners for _, owners in states) and len({row for row, _ in states}) > many // 2:
            return driver
