"""What the tests of machines share."""

from devicewindows.runs import Run
from devicewindows.settings import Book, Setting

POLICIES = ("first", "best", "worst", "next", "halves")
TUPLES = [(), ("to",), ("from",), ("both",), ("to", "from"), ("to", "both"), ("from", "both"), ("to", "from", "both")]


def state(machine, devices):
    """All that can be asked of a machine without changing it."""
    return {
        "memory": machine.memory(),
        "held": machine.held,
        "owners": machine.owners(),
        "waiting": machine.waiting(),
        "holes": [machine.holes(device) for device in devices],
        "under_way": [machine.under_way(device) for device in devices],
        "sight": [machine.sight(device) for device in devices],
        "strays": [machine.strays(device) for device in devices],
    }


def do(machine, event):
    """Do an event by the method of its name."""
    word, *rest = event
    if word == "bind":
        name, device, first, many, direction = rest
        return machine.bind(name, device, Run(first, many), direction)
    if word in ("give", "take"):
        name, first, many = rest
        return getattr(machine, word)(name, Run(first, many))
    return getattr(machine, word)(*rest)


def some_book(dice):
    duties = ("cleaned", "dropped", "bind_copied", "give_copied", "take_copied")
    return Book(**{duty: dice.choice(TUPLES) for duty in duties})


def some_setting(dice, **told):
    """A setting of small spaces, with few tables."""
    made = {
        "copies": dice.choice(["none", "ends", "all"]),
        "cached": dice.random() < 0.6,
        "batch": dice.choice([0, 0, 1, 2, 3, 8]),
        "early": dice.random() < 0.5,
        "drain": dice.random() < 0.5,
        "policy": dice.choice(POLICIES),
        "groups": dice.choice([1, 2, 3, 4]),
        "tables": dice.choice([1, 2, 3, 4, 16]),
        "book": None,
    }
    made.update(told)
    return Setting(**made)


def safe_setting(dice, **told):
    early = dice.random() < 0.5
    made = {"drain": True, "early": early, "batch": 0 if early else dice.choice([0, 1, 2, 8])}
    made.update(told)
    return some_setting(dice, **made)


def some_event(dice, owners, pages, devices, addresses):
    """An event that most machines with such owners do not refuse; others make up the rest."""
    words = 4 * pages
    bound = [row[0] for row in owners]
    kinds = ["read", "write", "peek", "poke", "load", "evict", "land", "flush", "bind", "bind", "bind"]
    if bound:
        kinds += ["unbind", "unbind", "give", "take", "take", "fetch", "fetch", "store", "store", "store"]
    kind = dice.choice(kinds)
    device = dice.choice(devices)
    value = dice.randint(1, 999)
    if kind == "bind":
        name = dice.choice(["k", "l", "m", "n", "o"])
        many = dice.choice([1, 1, 2, 3, 4, 5, 8, 12, 16])
        first = dice.randint(0, words - 1)
        return kind, name, device, first, many, dice.choice(["to", "from", "both"])
    if kind in ("unbind", "give", "take", "fetch", "store"):
        row = dice.choice(owners)
        first = dice.randint(row[2], row[2] + row[3] - 1)
        many = dice.randint(1, row[2] + row[3] - first)
        rest = {"unbind": (), "give": (first, many), "take": (first, many), "fetch": (first,), "store": (first, value)}
        return kind, row[0], *rest[kind]
    rest = {
        "read": (dice.randrange(words),), "write": (dice.randrange(words), value),
        "peek": (device, dice.randrange(addresses)), "poke": (device, dice.randrange(addresses), value),
        "load": (dice.randrange(words // 2),), "evict": (dice.randrange(words // 2),), "land": (device,), "flush": (),
    }
    return kind, *rest[kind]
