"""What the points 10 and 13 promise over the whole program: careful drivers, and names that are only names."""

import random
import unittest

from devicewindows.drivers import look
from devicewindows.errors import BadEvent
from devicewindows.experiments import experiment
from devicewindows.machine import Machine
from devicewindows.playing import first_breach, plain, play
from devicewindows.settings import Setting
from tests.driving import careful_driver, deeds, goals, lively_driver
from tests.machines import do, safe_setting, some_event, some_setting

NOISE = ("load", "evict", "land", "flush")


def some_path(dice, driver, longest):
    """The numbers of the rows that are executed, at most so many, up to any row."""
    path = []
    number = 0
    while number < len(driver) and len(path) < longest:
        path.append(number)
        number = dice.choice(goals(driver, number))
    return path


def with_devices(dice, events, pages, devices):
    """The events with accesses of orderly devices among them, each of a word that the device owns and may reach."""
    machine, made = Machine(pages, devices), []
    for event in events:
        do(machine, event)
        made.append(event)
        for _ in range(dice.choice([0, 0, 1, 2, 4])):
            made += orderly(dice, machine.owners())
    return made


def orderly(dice, owners):
    """An access that some device may do now, if there is any; values are those of no write."""
    found = []
    for name, _, first, _, direction, marks in owners:
        for word in [first + at for at, mark in enumerate(marks) if mark == "d"]:
            if direction in ("to", "both"):
                found.append(("fetch", name, word))
            if direction in ("from", "both"):
                found.append(("store", name, word, dice.randint(1000, 9999)))
    return [dice.choice(found)] if found else []


def with_timing(dice, events, pages, devices):
    """The events with any loads, evictions, landings and flushes among them."""
    made = []
    often = dice.choice([0, 0.3, 0.6])
    for event in events:
        while dice.random() < often:
            kind = dice.choice(NOISE)
            made.append({"land": (kind, dice.choice(devices)), "flush": (kind,)}.get(
                kind, (kind, dice.randrange(2 * pages))))
        made.append(event)
    return made[:400]


class CarefulDrivers(unittest.TestCase):

    def test_answers_of_plain_memory(self):
        dice = random.Random(41)
        refused = asked = 0
        for _ in range(120):
            pages, devices = dice.choice([1, 2, 4]), dice.choice([["a"], ["a", "b"], ["c", "a", "b"]])
            driver = careful_driver(dice, dice.randint(3, 24), pages, devices)
            path = some_path(dice, driver, 40)
            core = with_devices(dice, deeds(driver, path), pages, devices)
            told = {"pages": pages, "devices": devices}
            self.assertIsNone(first_breach(core, **told))
            for _ in range(25):
                events = with_timing(dice, core, pages, devices)
                setting = safe_setting(dice, groups=dice.choice([1, 2, 16]), tables=dice.choice([2, 4, 16]))
                calm = dice.choice([False, True, (dice.randint(0, 20), dice.randint(0, 60))])
                try:
                    answers = play(events, setting=setting, calm=calm, **told)
                except BadEvent:
                    refused += 1
                    continue
                wanted = plain(events, **told)
                asked += len([answer for answer in wanted if answer is not None])
                with self.subTest(driver=driver, events=events, setting=setting, calm=calm):
                    self.assertEqual(answers, wanted)
        self.assertLess(refused, 300)
        self.assertGreater(asked, 10000)

    def test_all_paths_of_a_driver(self):
        # A network card: each buffer is lent to the card, taken back, read and lent again.
        driver = [
            ("bind", "ring", "a", 0, 4, "both"), ("bind", "buf", "a", 6, 4, "from"), ("take", "ring", 1, 2),
            ("write", 4), ("either", 8), ("take", "buf", 6, 2), ("read", 7), ("give", "buf", 6, 2),
            ("give", "ring", 1, 2), ("unbind", "buf"), ("read", 8), ("unbind", "ring"), ("read", 2), ("either", 0),
        ]
        self.assertEqual(look(driver)[0], "careful")
        dice = random.Random(42)
        for _ in range(200):
            events = with_devices(dice, deeds(driver, some_path(dice, driver, 60)), 4, ["a", "b"])
            events = with_timing(dice, events, 4, ["a", "b"])
            setting = safe_setting(dice, groups=4, tables=8)
            self.assertEqual(play(events, setting=setting), plain(events))

    def test_only_these_drivers(self):
        # Each breach of the four kinds is told apart by two safe settings; of the others no values are told.
        dice = random.Random(43)
        shown = {}
        for _ in range(400):
            driver = lively_driver(dice, dice.randint(2, 12))
            result = look(driver)
            if result[0] == "breach":
                events, one, other = experiment(driver, result[1])
                self.assertNotEqual(play(events, setting=one), play(events, setting=other))
                shown[result[2]] = True
        self.assertEqual(set(shown), {"read", "write", "line", "share"})


class OnlyNames(unittest.TestCase):

    NAMES = {"k": "zebra", "l": "b", "m": "ab", "n": "y", "o": "a"}
    DEVICES = {"a": "m", "b": "c", "c": "b"}

    def event(self, event):
        """The event with other names."""
        word, *rest = event
        if word in ("bind", "unbind", "give", "take", "fetch", "store"):
            rest[0] = self.NAMES[rest[0]]
        if word == "bind":
            rest[1] = self.DEVICES[rest[1]]
        if word in ("land", "peek", "poke"):
            rest[0] = self.DEVICES[rest[0]]
        return word, *rest

    def owners(self, owners):
        """What is ascending is ascending again."""
        return tuple(sorted((self.NAMES[row[0]], self.DEVICES[row[1]], *row[2:]) for row in owners))

    def done(self, machine, event):
        try:
            return do(machine, event)
        except (ValueError, LookupError, RuntimeError, OverflowError) as error:
            return error.__class__

    def test_machines(self):
        dice = random.Random(44)
        for _ in range(120):
            devices, pages = dice.choice([["a"], ["b", "a"], ["c", "a", "b"]]), dice.choice([1, 2, 4])
            others = [self.DEVICES[device] for device in devices]
            setting = some_setting(dice)
            machine, other = Machine(pages, devices, setting), Machine(pages, others, setting)
            for _ in range(50):
                event = some_event(dice, machine.owners(), pages, devices, 16 * setting.groups)
                self.assertEqual(self.done(other, self.event(event)), self.done(machine, event))
                self.assertEqual(other.owners(), self.owners(machine.owners()))
                self.assertEqual((other.memory(), other.held), (machine.memory(), machine.held))
                self.assertEqual(other.waiting(), [(self.DEVICES[device], run) for device, run in machine.waiting()])
                for device, renamed in zip(devices, others):
                    self.assertEqual(other.sight(renamed), machine.sight(device))
                    self.assertEqual(other.strays(renamed), machine.strays(device))
                    self.assertEqual(other.holes(renamed), machine.holes(device))

    def test_events(self):
        dice = random.Random(45)
        for _ in range(100):
            machine, events = Machine(2, ["a", "b"]), []
            while len(events) < 25:
                event = some_event(dice, machine.owners(), 2, ["a", "b"], 4)
                if event[0] not in ("peek", "poke") and not isinstance(self.done(machine, event), type):
                    events.append(event)
            others = [self.event(event) for event in events]
            one, two = {"pages": 2, "devices": ("a", "b")}, {"pages": 2, "devices": ("m", "c")}
            setting = some_setting(dice, groups=16, tables=16)
            self.assertEqual(play(others, setting=setting, **two), play(events, setting=setting, **one))
            self.assertEqual(plain(others, **two), plain(events, **one))
            self.assertEqual(first_breach(others, **two), first_breach(events, **one))

    def row(self, row):
        return row if row[0] in ("either", "go", "end", "read", "write") else self.event(row)

    def test_drivers(self):
        dice = random.Random(46)
        kinds = {}
        for _ in range(400):
            driver = lively_driver(dice, dice.randint(2, 14))
            others = [self.row(row) for row in driver]
            result, other = look(driver), look(others, devices=["m", "c"])
            kinds[result[0]] = True
            if result[0] == "breach":
                self.assertEqual(other, result)
                events, one, two = experiment(others, other[1], devices=["m", "c"])
                self.assertNotEqual(*[play(events, setting=setting, devices=["m", "c"]) for setting in (one, two)])
            else:
                states = sorted((number, self.owners(owners)) for number, owners in result[1])
                self.assertEqual(other, ("careful", states))
        self.assertEqual(set(kinds), {"breach", "careful"})

    def test_a_name_may_be_that_of_a_device_or_a_deed(self):
        for name in ("a", "b", "bind", "end", "either", "read", "none", "abcdefgh"):
            events = [("write", 0, 3), ("bind", name, "a", 0, 2, "both"), ("fetch", name, 0), ("store", name, 1, 4),
                      ("unbind", name), ("read", 1)]
            self.assertEqual(play(events, setting=Setting(copies="ends", cached=True)), [None, None, 3, True, None, 4])
            self.assertEqual(look([("bind", name, "a", 0, 2, "both"), ("read", 0)]), ("breach", [0, 1], "read", 0))


if __name__ == "__main__":
    unittest.main()
