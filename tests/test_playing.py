"""Events, plain memory and breaches: the points 10 and 11."""

import copy
import inspect
import random
import unittest

from devicewindows.errors import BadEvent
from devicewindows.machine import Machine
from devicewindows.playing import first_breach, plain, play
from devicewindows.runs import Run
from devicewindows.settings import DIRECTIONS, Book, Setting
from tests.machines import do, some_event, some_setting
from tests.values import HUGE, nested, no_integers

EXAMPLE = [("bind", "m", "a", 1, 2, "from"), ("store", "m", 1, 7), ("take", "m", 1, 1), ("read", 1)]
MOST = 999999999999


def anything():
    return [0, 1, -1, HUGE, -HUGE, Run(0, 1), Setting(), Book(), Machine(1, ["a"])] + no_integers()


class Play(unittest.TestCase):

    def test_example(self):
        self.assertEqual(play(EXAMPLE), [None, True, None, 7])

    def test_no_events(self):
        self.assertEqual((play([]), plain([]), first_breach([])), ([], [], None))
        self.assertEqual(play([], calm=True), [])

    def test_all_events(self):
        events = [
            ("write", 0, 5), ("read", 0), ("bind", "m", "a", 0, 2, "both"), ("fetch", "m", 0), ("store", "m", 1, 6),
            ("peek", "a", 1), ("poke", "a", 2, 7), ("land", "a"), ("peek", "a", 2), ("poke", "b", 0, 1),
            ("peek", "b", 0), ("take", "m", 0, 1), ("give", "m", 0, 1), ("load", 0), ("evict", 0), ("flush",),
            ("unbind", "m"), ("read", 1),
        ]
        answers = [None, 5, None, 5, True, 6, True, None, 7, False, None, None, None, None, None, None, None, 6]
        self.assertEqual(play(events), answers)

    def test_loads_evictions_landings_and_flushes(self):
        bind = ("bind", "m", "a", 0, 1, "both")
        cached = Setting(cached=True)
        store = [bind, ("store", "m", 0, 5), ("land", "a"), ("read", 0)]
        self.assertEqual(play(store, setting=cached)[-1], 5)
        self.assertEqual(play(store[:2] + store[3:], setting=cached)[-1], 0)
        self.assertEqual(play([("load", 0)] + store, setting=cached)[-1], 0)
        self.assertEqual(play([("load", 1)] + store, setting=cached)[-1], 5)
        write = [bind, ("write", 1, 5), ("evict", 0), ("peek", "a", 1)]
        self.assertEqual(play(write, setting=cached)[-1], 5)
        self.assertEqual(play(write[:2] + write[3:], setting=cached)[-1], 0)
        gone = [bind, ("fetch", "m", 0), ("unbind", "m"), ("flush",), ("peek", "a", 0)]
        self.assertIsNone(play(gone, setting=Setting(batch=8))[-1])
        self.assertEqual(play(gone[:3] + gone[4:], setting=Setting(batch=8))[-1], 0)

    def test_setting(self):
        events = [("bind", "m", "a", 0, 1, "to"), ("write", 0, 5), ("fetch", "m", 0)]
        self.assertEqual(play(events), [None, None, 5])
        self.assertEqual(play(events, setting=None), [None, None, 5])
        self.assertEqual(play(events, setting=Setting(copies="all")), [None, None, 0])
        self.assertEqual(play(events, setting=Setting(cached=True)), [None, None, 0])

    def test_pages_and_devices(self):
        self.assertEqual(play([("write", 63, 5), ("read", 63)], pages=16), [None, 5])
        self.assertEqual(play([("land", "xyz")], devices=["xyz"]), [None])
        self.assertEqual(play([("read", 3)], pages=1, devices=("c",)), [0])
        for events, told, index in [
            ([("read", 15), ("read", 16)], {}, 1),
            ([("land", "a"), ("land", "b"), ("land", "c")], {}, 2),
            ([("land", "a")], {"devices": ["b"]}, 0),
            ([("read", 63), ("read", 64)], {"pages": 16}, 1),
        ]:
            for call in (play, plain, first_breach):
                with self.assertRaises(BadEvent) as caught:
                    call(events, **told)
                self.assertEqual(caught.exception.index, index)

    def test_a_new_machine_each_time(self):
        events = [("read", 0), ("write", 0, 5)]
        self.assertEqual((play(events), play(events)), ([0, None], [0, None]))

    def test_arguments_stay_as_they_are(self):
        events, devices, setting = list(EXAMPLE), ["a", "b"], Setting(cached=True)
        before = copy.deepcopy((events, devices)), repr(setting)
        for _ in range(2):
            answers = play(events, setting=setting, devices=devices)
            answers.append(1)
            plain(events, devices=devices).append(1)
            first_breach(events, devices=devices)
        self.assertEqual(((events, devices), repr(setting)), before)

    def test_like_the_calls_of_a_machine(self):
        dice = random.Random(3)
        for _ in range(40):
            setting = some_setting(dice)
            machine, events, answers = Machine(2, ["a", "b"], setting), [], []
            while len(events) < 60:
                event = some_event(dice, machine.owners(), 2, ["a", "b"], 20)
                try:
                    answers.append(do(machine, event))
                except (ValueError, LookupError, RuntimeError, OverflowError):
                    # A refused bind may have flushed, so that a played list can only end with it.
                    with self.assertRaises(BadEvent) as caught:
                        play(events + [event, None], setting=setting, pages=2)
                    self.assertEqual(caught.exception.index, len(events))
                    if event[0] == "bind":
                        break
                else:
                    events.append(event)
            self.assertEqual(play(events, setting=setting, pages=2), answers)

    def test_signatures(self):
        self.assertEqual(str(inspect.signature(play)),
                         "(events, *, setting=None, pages=4, devices=('a', 'b'), calm=False)")
        for call in (plain, first_breach):
            self.assertEqual(str(inspect.signature(call)), "(events, *, pages=4, devices=('a', 'b'))")

    def test_four_hundred_events(self):
        events = [("write", 0, 1), ("read", 0)] * 200
        self.assertEqual(play(events), [None, 1] * 200)
        self.assertEqual(plain(events), [None, 1] * 200)
        self.assertIsNone(first_breach(events))


class Calm(unittest.TestCase):

    # With these, a write that is under way at the unbind lands at a flush only if there is one.
    EVENTS = [
        ("bind", "m", "a", 0, 4, "both"), ("fetch", "m", 0), ("unbind", "m"), ("peek", "a", 0),
        ("bind", "m", "a", 0, 4, "both"), ("fetch", "m", 0), ("unbind", "m"), ("peek", "a", 0), ("peek", "a", 4),
    ]

    def test_all_events(self):
        # Without a flush the kept entries are used on, and the second mapping has the page behind the first one's.
        self.assertEqual(play(self.EVENTS, calm=True), [None, 0, None, 0, None, 0, None, 0, 0])

    def test_none(self):
        flushed = [None, 0, None, None, None, 0, None, None, None]
        self.assertEqual(play(self.EVENTS), flushed)
        self.assertEqual(play(self.EVENTS, calm=False), flushed)
        for calm in [(0, 0), (3, 3), (9, 9), (3, 2), (9, 0), (20, 30), (400, 400)]:
            self.assertEqual(play(self.EVENTS, calm=calm), flushed)

    def test_a_part(self):
        self.assertEqual(play(self.EVENTS, calm=(0, 9)), play(self.EVENTS, calm=True))
        self.assertEqual(play(self.EVENTS, calm=(0, 400)), play(self.EVENTS, calm=True))
        self.assertEqual(play(self.EVENTS, calm=(-3, 9)), play(self.EVENTS, calm=True))
        self.assertEqual(play(self.EVENTS, calm=(-3, -1)), play(self.EVENTS))
        # The first unbind alone, from its index to below the next one.
        self.assertEqual(play(self.EVENTS, calm=(2, 3)), [None, 0, None, 0, None, 0, None, None, None])
        self.assertEqual(play(self.EVENTS, calm=(3, 6)), play(self.EVENTS))
        self.assertEqual(play(self.EVENTS, calm=(0, 2)), play(self.EVENTS))
        self.assertEqual(play(self.EVENTS, calm=(6, 7)), [None, 0, None, None, None, 0, None, 0, None])
        self.assertEqual(play(self.EVENTS, calm=(7, 9)), play(self.EVENTS))

    def test_errors_within_and_behind(self):
        events = self.EVENTS + [("read", 99), ("read", 98)]
        for calm in (True, False, (0, 3), (0, 9), (9, 10), (10, 11), (3, 400)):
            with self.assertRaises(BadEvent) as caught:
                play(events, calm=calm)
            self.assertEqual(caught.exception.index, 9)


class Plain(unittest.TestCase):

    def test_answers(self):
        events = [
            ("read", 3), ("write", 3, 5), ("read", 3), ("bind", "m", "a", 0, 4, "both"), ("fetch", "m", 3),
            ("store", "m", 2, 6), ("read", 2), ("fetch", "m", 2), ("take", "m", 0, 4), ("give", "m", 0, 1),
            ("load", 0), ("evict", 1), ("land", "b"), ("flush",), ("unbind", "m"), ("read", 2),
        ]
        self.assertEqual(plain(events), [0, None, 5, None, 5, True, 6, 6] + [None] * 7 + [6])
        self.assertEqual(plain(EXAMPLE), [None, True, None, 7])

    def test_stores_are_there_at_once_whatever_the_direction(self):
        events = [("bind", "m", "a", 0, 1, "to"), ("store", "m", 0, 5), ("bind", "n", "a", 0, 1, "from"),
                  ("fetch", "n", 0)]
        self.assertEqual(plain(events), [None, True, None, 5])
        self.assertEqual(play(events), [None, False, None, None])

    def test_each_call_has_a_new_memory(self):
        events = [("read", 0), ("write", 0, 5)]
        self.assertEqual((plain(events), plain(events)), ([0, None], [0, None]))


class Bad(unittest.TestCase):

    BEFORE = [("bind", "m", "a", 2, 4, "both"), ("take", "m", 2, 1), ("write", 2, 5)]

    def bad(self, event, calls=(play, plain, first_breach), **told):
        """The event is not valid behind BEFORE, and on its own in front of others."""
        with self.subTest(event=event):
            for call in calls:
                for behind in ([], [("read", 2)], [("read", 99)], [None]):
                    with self.assertRaises(BadEvent) as caught:
                        call(self.BEFORE + [event] + behind, **told)
                    self.assertEqual(caught.exception.index, 3)

    def good(self, event, calls=(play, plain, first_breach)):
        with self.subTest(event=event):
            for call in calls:
                call(self.BEFORE + [event])

    def test_no_tuples_with_a_word(self):
        for event in anything() + [("Read", 1), (["read"], 1), (("read", 1),), ["read", 1], [("read", 1)], "flush",
                                   ("",), (True, 1), (None,), ("read ", 1), ("address", "m", 2), ("owners",), ("go", 0),
                                   ("__enter__",), ("memory",), nested(5), (Run(0, 1),)]:
            if event != ("read", 1):
                self.bad(event)

    def test_lengths(self):
        for event in [("bind", "n", "a", 0, 1, "to"), ("unbind", "m"), ("give", "m", 2, 1), ("take", "m", 2, 1),
                      ("read", 2), ("write", 2, 5), ("fetch", "m", 3), ("store", "m", 3, 5), ("load", 0), ("evict", 0),
                      ("land", "a"), ("flush",)]:
            self.good(event)
            self.bad(event[:-1])
            self.bad(event + (0,))
            self.bad(list(event))
        for event in [("peek", "a", 0), ("poke", "a", 0, 5)]:
            self.good(event, calls=(play,))
            self.bad(event[:-1], calls=(play,))
            self.bad(event + (0,), calls=(play,))
            self.bad(list(event), calls=(play,))

    def test_peek_and_poke_are_for_play_only(self):
        self.bad(("peek", "a", 0), calls=(plain, first_breach))
        self.bad(("poke", "a", 0, 5), calls=(plain, first_breach))

    def test_values(self):
        for value in [MOST + 1, -MOST - 1, HUGE, -HUGE, Run(0, 1), Setting()] + no_integers():
            self.bad(("write", 2, value))
            self.bad(("store", "m", 2, value))
            self.bad(("poke", "a", 2, value), calls=(play,))
        for value in (0, -1, MOST, -MOST):
            self.good(("write", 2, value))
            self.good(("store", "m", 2, value))
            self.good(("poke", "a", 2, value), calls=(play,))

    def test_lines(self):
        for line in [-1, 8, 9, HUGE, -HUGE, Run(0, 1), Setting()] + no_integers():
            self.bad(("load", line))
            self.bad(("evict", line))
        for line in (0, 7):
            self.good(("load", line))
            self.good(("evict", line))

    def test_lines_of_other_memories(self):
        for pages in (1, 16):
            for word in ("load", "evict"):
                play([(word, 2 * pages - 1)], pages=pages)
                with self.assertRaises(BadEvent):
                    play([(word, 2 * pages)], pages=pages)

    def test_addresses(self):
        for address in [-1, -HUGE, Run(0, 1), Setting()] + no_integers():
            self.bad(("peek", "a", address), calls=(play,))
            self.bad(("poke", "a", address, 5), calls=(play,))
        for address in (0, 255, 256, HUGE):
            self.good(("peek", "a", address), calls=(play,))
            self.good(("poke", "a", address, 5), calls=(play,))

    def test_words(self):
        for word in [-1, 16, HUGE, -HUGE, Run(2, 1), Setting()] + no_integers():
            self.bad(("read", word))
            self.bad(("write", word, 5))
            self.bad(("fetch", "m", word))
            self.bad(("store", "m", word, 5))
        for word in (1, 6):
            self.good(("read", word))
            self.bad(("fetch", "m", word))
            self.bad(("store", "m", word, 5))

    def test_names_and_devices(self):
        for value in anything() + ["x", "M", ""]:
            self.bad(("unbind", value))
            self.bad(("give", value, 2, 1))
            self.bad(("take", value, 2, 1))
            self.bad(("fetch", value, 2))
            self.bad(("store", value, 2, 5))
            self.bad(("bind", "n", value if value != "a" else "c", 0, 1, "to"))
            if value != "a":
                self.bad(("land", value))
                self.bad(("peek", value, 0), calls=(play,))
                self.bad(("poke", value, 0, 5), calls=(play,))
            if value not in ("a", "x"):
                self.bad(("bind", value, "a", 0, 1, "to"))

    def test_runs_and_parts(self):
        for value in [-1, 0, 17, HUGE, -HUGE, Run(2, 1), Setting()] + no_integers():
            self.bad(("bind", "n", "a", 0, value, "to"))
            self.bad(("give", "m", 2, value))
            self.bad(("take", "m", 2, value))
            if value != 0 or isinstance(value, bool):
                self.bad(("bind", "n", "a", value, 1, "to"))
            self.bad(("give", "m", value, 1))
            self.bad(("take", "m", value, 1))
        self.bad(("bind", "n", "a", 15, 2, "to"))
        self.bad(("take", "m", 1, 2))
        self.bad(("give", "m", 5, 2))

    def test_directions(self):
        for value in anything() + ["To", ""]:
            self.bad(("bind", "n", "a", 0, 1, value))

    def test_refused_by_the_machine(self):
        self.bad(("bind", "m", "a", 0, 1, "to"))
        full = [("bind", name, "a", 0, 1, "to") for name in ("j", "k", "l", "m", "n")]
        rooms = [("bind", "m", "a", 0, 8, "to"), ("bind", "n", "a", 0, 12, "to")]
        tables = [("bind", "m", "a", 0, 4, "to"), ("bind", "n", "b", 0, 4, "to")]
        for events, told, index in [(full, {}, 4), (rooms, {"setting": Setting(groups=1)}, 1),
                                    (tables, {"setting": Setting(tables=1)}, 1)]:
            with self.assertRaises(BadEvent) as caught:
                play(events, **told)
            self.assertEqual(caught.exception.index, index)

    def test_plain_and_first_breach_use_the_standard_setting(self):
        events = [("bind", name, "a", 0, 16, "to") for name in ("k", "l", "m", "n")]
        with self.assertRaises(BadEvent):
            play(events, setting=Setting(groups=3))
        self.assertEqual((plain(events), first_breach(events)), ([None] * 4, None))

    def test_least_index(self):
        events = [("read", 0), ("read", 16), None, ("unbind", "m"), ("read",)]
        for many in range(2, 6):
            for call in (play, plain, first_breach):
                with self.assertRaises(BadEvent) as caught:
                    call(events[:many])
                self.assertEqual(caught.exception.index, 1)

    def test_is_checked_before_breaches(self):
        events = [("bind", "m", "a", 0, 1, "from"), ("read", 0)]
        self.assertEqual(first_breach(events), (1, "read", 0))
        for event in (("read", 16), ("unbind", "n"), ("peek", "a", 0), None, ("bind", "m", "a", 0, 1, "to")):
            with self.assertRaises(BadEvent) as caught:
                first_breach(events + [("read", 1), event])
            self.assertEqual(caught.exception.index, 3)


class Breaches(unittest.TestCase):

    def breach(self, events, expected, **told):
        with self.subTest(events=events):
            self.assertEqual(first_breach(events, **told), expected)

    def test_example(self):
        self.breach(EXAMPLE, None)
        self.breach(EXAMPLE + [("write", 0, 5), ("write", 3, 9)], (5, "line", 3))

    def test_read(self):
        for direction, breach in [("to", None), ("from", (1, "read", 1)), ("both", (1, "read", 1))]:
            bind = ("bind", "m", "a", 1, 2, direction)
            self.breach([bind, ("read", 1)], breach)
            self.breach([bind, ("read", 0), ("read", 3)], None)
            self.breach([bind, ("take", "m", 1, 1), ("read", 1)], None)
            self.breach([bind, ("take", "m", 1, 1), ("read", 2)], breach and (2, "read", 2))
            self.breach([bind, ("take", "m", 1, 1), ("give", "m", 1, 2), ("read", 1)], breach and (3, "read", 1))
            self.breach([bind, ("unbind", "m"), ("read", 1)], None)

    def test_write(self):
        for direction in DIRECTIONS:
            bind = ("bind", "m", "a", 2, 2, direction)
            self.breach([bind, ("write", 2, 5)], (1, "write", 2))
            self.breach([bind, ("write", 3, 5)], (1, "write", 3))
            self.breach([bind, ("write", 1, 5), ("write", 4, 5)], None)
            self.breach([bind, ("take", "m", 2, 2), ("write", 2, 5), ("write", 3, 5)], None)
            self.breach([bind, ("unbind", "m"), ("write", 2, 5)], None)

    def test_line(self):
        for direction in DIRECTIONS:
            bind = ("bind", "m", "a", 1, 2, direction)
            line = direction != "to"
            self.breach([bind, ("write", 0, 5)], (1, "line", 0) if line else None)
            self.breach([bind, ("write", 3, 5)], (1, "line", 3) if line else None)
            self.breach([bind, ("take", "m", 1, 1), ("write", 0, 5), ("write", 1, 5)], None)
            self.breach([bind, ("take", "m", 1, 1), ("write", 3, 5)], (2, "line", 3) if line else None)
            self.breach([bind, ("unbind", "m"), ("write", 0, 5)], None)
            self.breach([bind, ("write", 4, 5)], None)

    def test_line_within_a_run(self):
        events = [("bind", "m", "a", 0, 2, "both"), ("take", "m", 0, 1), ("write", 0, 5)]
        self.breach(events, (2, "line", 0))
        self.breach([("bind", "m", "a", 0, 2, "to"), ("take", "m", 0, 1), ("write", 0, 5)], None)

    def test_write_goes_before_line(self):
        self.breach([("bind", "m", "a", 0, 2, "both"), ("write", 0, 5)], (1, "write", 0))
        events = [("bind", "m", "a", 0, 1, "to"), ("bind", "n", "a", 1, 1, "from")]
        self.breach(events + [("write", 0, 5)], (2, "write", 0))
        self.breach(events + [("write", 1, 5)], (2, "write", 1))

    def test_share_by_bind(self):
        for one in DIRECTIONS:
            for other in DIRECTIONS:
                for device in ("a", "b"):
                    breach = None if one == other == "to" else (1, "share", 3)
                    events = [("bind", "m", "a", 2, 4, one), ("bind", "n", device, 3, 5, other)]
                    self.breach(events, breach)
                    self.breach([("bind", "m", "a", 2, 4, one), ("bind", "n", device, 6, 2, other)], None)
                    self.breach([("bind", "m", "a", 2, 4, one), ("bind", "n", device, 0, 2, other)], None)
                    events.insert(1, ("take", "m", 2, 3))
                    self.breach(events, breach and (2, "share", 5))
                    events[1] = ("take", "m", 2, 4)
                    self.breach(events, None)
                    events[1] = ("unbind", "m")
                    self.breach(events, None)

    def test_share_by_give(self):
        for one in DIRECTIONS:
            for other in DIRECTIONS:
                events = [("bind", "m", "a", 0, 4, one), ("take", "m", 0, 4), ("bind", "n", "b", 1, 2, other)]
                breach = None if one == other == "to" else (3, "share", 1)
                self.breach(events + [("give", "m", 0, 4)], breach)
                self.breach(events + [("give", "m", 2, 2)], breach and (3, "share", 2))
                self.breach(events + [("give", "m", 0, 1), ("give", "m", 3, 1)], None)

    def test_share_by_give_of_words_that_the_device_owns_already(self):
        # The device owns the word 1 in both mappings; giving it again makes it own nothing.
        events = [("bind", "m", "a", 0, 4, "to"), ("take", "m", 0, 1), ("bind", "n", "b", 1, 1, "to"),
                  ("give", "m", 0, 2), ("give", "m", 0, 4)]
        self.breach(events, None)

    def test_share_is_of_the_lowest_word(self):
        events = [("bind", "k", "a", 8, 1, "from"), ("bind", "l", "a", 5, 1, "from"), ("bind", "m", "b", 6, 1, "to")]
        self.breach(events + [("bind", "n", "b", 4, 6, "to")], (3, "share", 5))
        self.breach(events + [("bind", "n", "b", 6, 4, "to")], (3, "share", 8))
        self.breach(events + [("bind", "n", "b", 6, 4, "from")], (3, "share", 6))

    def test_device(self):
        for direction in DIRECTIONS:
            bind = ("bind", "m", "a", 1, 2, direction)
            for word in (1, 2):
                fetch, store = ("fetch", "m", word), ("store", "m", word, 5)
                self.breach([bind, fetch], (1, "device", word) if direction == "from" else None)
                self.breach([bind, store], (1, "device", word) if direction == "to" else None)
                for event in (fetch, store):
                    self.breach([bind, ("take", "m", word, 1), event], (2, "device", word))
                self.breach([bind, ("take", "m", 1, 2), ("give", "m", word, 1), fetch],
                            (3, "device", word) if direction == "from" else None)

    def test_device_of_this_mapping(self):
        events = [("bind", "m", "a", 0, 2, "to"), ("bind", "n", "a", 0, 2, "to"), ("take", "m", 0, 1)]
        self.breach(events + [("fetch", "n", 0)], None)
        self.breach(events + [("fetch", "m", 0)], (3, "device", 0))

    def test_no_breaches(self):
        events = [("bind", "m", "a", 0, 2, "both"), ("load", 0), ("evict", 0), ("land", "a"), ("flush",),
                  ("take", "m", 0, 2), ("take", "m", 0, 2), ("give", "m", 0, 1), ("unbind", "m")]
        self.breach(events, None)

    def test_first_of_several(self):
        events = [("bind", "m", "a", 0, 2, "both"), ("read", 1), ("write", 0, 5), ("fetch", "m", 0)]
        self.breach(events, (1, "read", 1))
        self.breach(events[:1] + events[2:], (1, "write", 0))

    def test_pages_and_devices(self):
        events = [("bind", "m", "c", 60, 4, "from"), ("read", 63)]
        self.breach(events, (1, "read", 63), pages=16, devices=["c"])


if __name__ == "__main__":
    unittest.main()
