"""What point 13 promises of machines: careful events, stray words, and what is left at the end."""

import random
import unittest

from devicewindows.errors import BadEvent
from devicewindows.machine import Machine
from devicewindows.playing import first_breach, plain, play
from devicewindows.runs import Run
from devicewindows.settings import Book, Setting
from tests.machines import POLICIES, do, safe_setting, some_book, some_event, some_setting

REFUSED = (ValueError, LookupError, RuntimeError, OverflowError)
NOISE = ("load", "evict", "land", "flush")


def careful_events(dice, pages, devices, length):
    """Events without a breach that the standard machine does not refuse; loads and the like are among them."""
    machine, events = Machine(pages, devices), []
    while len(events) < length:
        event = some_event(dice, machine.owners(), pages, devices, 4)
        if event[0] in ("peek", "poke"):
            continue
        try:
            if first_breach(events + [event], pages=pages, devices=devices) is not None:
                continue
        except BadEvent:
            continue
        do(machine, event)
        events.append(event)
    return events


def with_noise(dice, events, pages, devices):
    """The events with further loads, evictions, landings and flushes among them."""
    made = []
    for event in events:
        while dice.random() < 0.5:
            kind = dice.choice(NOISE)
            made.append({"land": (kind, dice.choice(devices)), "flush": (kind,)}.get(
                kind, (kind, dice.randrange(2 * pages))))
        made.append(event)
    return made


class CarefulEvents(unittest.TestCase):

    def test_answers_of_plain_memory(self):
        dice = random.Random(13)
        played = refused = 0
        for _ in range(60):
            pages, devices = dice.choice([1, 1, 2, 3]), ["a", "b"]
            core = careful_events(dice, pages, devices, 30)
            for _ in range(40):
                setting = safe_setting(dice, groups=dice.choice([1, 2, 16]), tables=dice.choice([1, 2, 16]),
                                       cached=dice.random() < 0.8)
                events = with_noise(dice, core, pages, devices)
                told = {"pages": pages, "devices": devices}
                calm = dice.choice([False, True, (dice.randint(0, 30), dice.randint(0, 60))])
                try:
                    answers = play(events, setting=setting, calm=calm, **told)
                except BadEvent:
                    refused += 1
                else:
                    played += 1
                    with self.subTest(events=events, setting=setting):
                        self.assertEqual(answers, plain(events, **told))
        self.assertGreater(played, 4 * refused)

    def test_example_under_many_settings(self):
        events = [
            ("write", 1, 5), ("write", 2, 6), ("bind", "m", "a", 1, 2, "both"), ("fetch", "m", 1), ("store", "m", 2, 7),
            ("take", "m", 2, 1), ("read", 2), ("write", 2, 8), ("give", "m", 2, 1), ("fetch", "m", 2),
            ("store", "m", 1, 9), ("unbind", "m"), ("read", 1), ("read", 2),
        ]
        expected = [None, None, None, 5, True, None, 7, None, None, 8, True, None, 9, 8]
        self.assertIsNone(first_breach(events))
        self.assertEqual(plain(events), expected)
        for copies in ("none", "ends", "all"):
            for cached in (True, False):
                for batch in range(9):
                    for early in (True, False):
                        for policy in POLICIES:
                            setting = Setting(copies=copies, cached=cached, batch=batch, early=early, policy=policy,
                                              groups=1, tables=1)
                            if setting.safe:
                                self.assertEqual(play(events, setting=setting), expected)

    def test_each_duty_is_needed(self):
        # The settings are safe, but the books leave a duty out, and the answers are others.
        cases = [
            ("none", Book(cleaned=()), [("write", 0, 5), ("bind", "m", "a", 0, 1, "to"), ("fetch", "m", 0)]),
            ("none", Book(dropped=()), [("read", 0), ("bind", "m", "a", 0, 1, "from"), ("store", "m", 0, 5),
                                        ("take", "m", 0, 1), ("read", 0)]),
            ("all", Book(bind_copied=()), [("write", 0, 5), ("bind", "m", "a", 0, 1, "to"), ("fetch", "m", 0)]),
            ("all", Book(give_copied=()), [("bind", "m", "a", 0, 1, "to"), ("take", "m", 0, 1), ("write", 0, 5),
                                           ("give", "m", 0, 1), ("fetch", "m", 0)]),
            ("all", Book(take_copied=()), [("bind", "m", "a", 0, 1, "from"), ("store", "m", 0, 5),
                                           ("take", "m", 0, 1), ("read", 0)]),
        ]
        for copies, book, events in cases:
            self.assertIsNone(first_breach(events))
            self.assertEqual(play(events, setting=Setting(copies=copies, cached=True)), plain(events))
            self.assertNotEqual(play(events, setting=Setting(copies=copies, cached=True, book=book)), plain(events))


class StrayWords(unittest.TestCase):

    def deeds(self, dice, setting, check):
        devices = dice.choice([["a"], ["a", "b"], ["c", "b", "a"]])
        pages = dice.choice([1, 2, 4])
        machine = Machine(pages, devices, setting)
        calm = False
        for _ in range(60):
            if dice.random() < 0.05:
                calm = not calm
                if calm:
                    machine.__enter__()
                else:
                    machine.__exit__(None, None, None)
            event = some_event(dice, machine.owners(), pages, devices, 16 * setting.groups)
            try:
                do(machine, event)
            except REFUSED:
                self.assertEqual(event[0], "bind")
            check(machine, devices)
        return machine, devices

    def no_strays(self, machine, devices):
        for device in devices:
            self.assertEqual(machine.strays(device), ([], []))

    def test_none_under_safe_settings(self):
        dice = random.Random(15)
        for _ in range(250):
            setting = safe_setting(dice, book=some_book(dice))
            with self.subTest(setting=setting):
                self.deeds(dice, setting, self.no_strays)

    def test_some_under_unsafe_settings(self):
        dice = random.Random(16)
        for told in ({"drain": False, "early": False}, {"drain": True, "early": True, "batch": 3}):
            found = []

            def look(machine, devices):
                found.extend(device for device in devices if machine.strays(device) != ([], []))

            for _ in range(60):
                self.deeds(dice, some_setting(dice, **told), look)
            self.assertGreater(len(found), 0)

    def test_nothing_is_left_at_the_end(self):
        dice = random.Random(17)
        for _ in range(200):
            setting = safe_setting(dice, book=some_book(dice))
            machine, devices = self.deeds(dice, setting, lambda machine, devices: None)
            names = [row[0] for row in machine.owners()]
            dice.shuffle(names)
            for name in names:
                machine.unbind(name)
            machine.flush()
            with self.subTest(setting=setting):
                self.assertEqual((machine.owners(), machine.waiting()), ((), []))
                for device in devices:
                    self.assertEqual(machine.sight(device), ([], []))
                    self.assertEqual(machine.holes(device), [Run(0, 4 * setting.groups)])
                    self.assertEqual([machine.peek(device, address) for address in range(16 * setting.groups)],
                                     [None] * (16 * setting.groups))


if __name__ == "__main__":
    unittest.main()
