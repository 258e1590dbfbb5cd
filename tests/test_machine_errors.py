"""Wrong arguments of a machine's calls: which error they raise, and that nothing changes."""

import itertools
import unittest

from devicewindows.errors import (
    BadDirection, BadName, BadPart, BadRun, BadWord, Busy, Full, NoDevice, NoMapping, NoRoom, NoTable,
)
from devicewindows.lines import Lines
from devicewindows.machine import Machine
from devicewindows.runs import Run
from devicewindows.settings import Book, Setting
from devicewindows.spaces import Space
from tests.machines import state
from tests.values import HUGE, nested, no_integers, no_runs

DEVICES = ["a", "b"]


def objects():
    """Objects of the classes of the package, but for runs."""
    return [Lines([0, 0]), Space(1), Book(), Setting(), Machine(1, ["a"]), [Setting()], (Machine(1, ["a"]),)]


def anything():
    return [0, 1, -1, 5, HUGE, -HUGE] + no_integers() + objects()


def used(setting=None):
    """A machine with two mappings, a write under way, a held line and a waiting run."""
    machine = Machine(4, DEVICES, setting or Setting(cached=True, batch=8))
    machine.bind("m", "a", Run(2, 6), "both")
    machine.bind("n", "b", Run(12, 2), "from")
    machine.bind("o", "b", Run(8, 4), "to")
    machine.unbind("o")
    machine.take("m", Run(3, 2))
    machine.write(3, 9)
    machine.store("m", 2, 5)
    return machine


class ErrorsTest(unittest.TestCase):

    def refused(self, error, call, machine=None, **attributes):
        """The call with a machine raises just this error and changes nothing; the error is given back."""
        machine = machine or used()
        before = state(machine, DEVICES)
        with self.assertRaises(error) as caught:
            call(machine)
        self.assertIs(type(caught.exception), error)
        self.assertEqual(vars(caught.exception), attributes)
        self.assertEqual(state(machine, DEVICES), before)


class Bind(ErrorsTest):

    def test_bad_names(self):
        for name in anything() + ["", "A", "a1", "a b", "abcdefghi", "m ", " m", "_", "mM", "a-b", "~", "zzzzzzzzz"]:
            if name != "a":
                with self.subTest(name=name):
                    self.refused(BadName, lambda machine: machine.bind(name, "a", Run(0, 1), "to"))

    def test_good_names(self):
        for name in ("a", "z", "abcdefgh", "zzzzzzzz", "bind", "mm"):
            machine = used()
            machine.bind(name, "a", Run(0, 1), "to")
            self.assertIn(name, [row[0] for row in machine.owners()])

    def test_busy(self):
        for name in ("m", "n"):
            self.refused(Busy, lambda machine: machine.bind(name, "a", Run(0, 1), "to"), name=name)
        machine = used()
        machine.unbind("m")
        machine.bind("m", "b", Run(0, 1), "to")

    def test_devices(self):
        for device in anything() + ["c", "A", "aa", "", " a", ["a"], ("a",)]:
            if device != "a":
                with self.subTest(device=device):
                    self.refused(NoDevice, lambda machine: machine.bind("k", device, Run(0, 1), "to"), name=device)

    def test_runs(self):
        outside = [Run(0, 17), Run(16, 1), Run(15, 2), Run(1, 16), Run(0, 10 ** 12), Run(10 ** 12, 1), Run(100, 100)]
        for run in no_runs() + objects() + outside + [(0, 1), [0, 1], [Run(0, 1)], (Run(0, 1),)]:
            with self.subTest(run=run):
                self.refused(BadRun, lambda machine: machine.bind("k", "a", run, "to"))

    def test_more_than_16_words(self):
        machine = Machine(16, DEVICES)
        for run in (Run(0, 17), Run(5, 18), Run(0, 64)):
            self.refused(BadRun, lambda machine: machine.bind("k", "a", run, "to"), machine)
        machine.bind("k", "a", Run(48, 16), "to")

    def test_directions(self):
        for direction in anything() + ["To", "to ", "", "fromto", ("to",), ["both"], ("to", "from", "both"), "up"]:
            with self.subTest(direction=direction):
                self.refused(BadDirection, lambda machine: machine.bind("k", "a", Run(0, 1), direction))

    def test_full(self):
        machine = used()
        machine.bind("k", "a", Run(0, 1), "to")
        machine.bind("l", "a", Run(0, 1), "to")
        self.refused(Full, lambda machine: machine.bind("o", "a", Run(0, 1), "to"), machine, most=4)

    def test_no_room(self):
        machine = Machine(8, DEVICES, Setting(groups=1))
        machine.bind("m", "a", Run(0, 4), "to")
        for run, many in [(Run(0, 13), 4), (Run(3, 12), 4), (Run(3, 14), 5), (Run(7, 16), 5)]:
            self.refused(NoRoom, lambda machine: machine.bind("k", "a", run, "to"), machine, many=many)

    def test_no_table(self):
        machine = Machine(8, DEVICES, Setting(tables=1))
        machine.bind("m", "a", Run(0, 4), "to")
        self.refused(NoTable, lambda machine: machine.bind("k", "b", Run(0, 1), "to"), machine)
        self.refused(NoTable, lambda machine: machine.bind("k", "a", Run(0, 16), "to"), machine)

    def test_first_error_that_applies(self):
        def full():
            machine = Machine(2, DEVICES, Setting(groups=1, tables=1))
            for name in ("k", "l", "m", "n"):
                machine.bind(name, "a", Run(0, 1), "to")
            return machine

        wrong = [
            ("name", "M", BadName, {}),
            ("name", "m", Busy, {"name": "m"}),
            ("device", "x", NoDevice, {"name": "x"}),
            ("run", Run(0, 17), BadRun, {}),
            ("direction", "up", BadDirection, {}),
            (None, None, Full, {"most": 4}),
        ]
        right = {"name": "o", "device": "b", "run": Run(0, 1), "direction": "to"}
        for many in range(1, len(wrong) + 1):
            for chosen in itertools.combinations(wrong, many):
                told = dict(right)
                for field, value, _, _ in reversed(chosen):
                    if field is not None:
                        told[field] = value
                with self.subTest(told=told):
                    self.refused(chosen[0][2], lambda machine: machine.bind(**told), full(), **chosen[0][3])

    def test_full_goes_before_room_and_tables(self):
        machine = Machine(8, DEVICES, Setting(groups=1, tables=1, batch=8))
        for name in ("k", "l", "m", "n"):
            machine.bind(name, "a", Run(0, 1), "to")
        self.refused(Full, lambda machine: machine.bind("o", "a", Run(0, 1), "to"), machine, most=4)
        self.refused(Full, lambda machine: machine.bind("o", "b", Run(0, 1), "to"), machine, most=4)

    def test_room_goes_before_tables(self):
        machine = Machine(8, DEVICES, Setting(groups=1, tables=1))
        machine.bind("m", "a", Run(0, 1), "to")
        self.refused(NoRoom, lambda machine: machine.bind("o", "b", Run(3, 14), "to"), machine, many=5)
        self.refused(NoTable, lambda machine: machine.bind("o", "b", Run(3, 13), "to"), machine)

    def test_the_marks_stay(self):
        machine = Machine(8, DEVICES, Setting(policy="next", tables=1, groups=2))
        machine.bind("m", "a", Run(0, 4), "to")
        self.refused(NoTable, lambda machine: machine.bind("k", "a", Run(0, 16), "to"), machine)
        self.refused(NoTable, lambda machine: machine.bind("k", "b", Run(0, 16), "to"), machine)
        machine.unbind("m")
        machine.bind("m", "a", Run(0, 4), "to")
        self.assertEqual(machine.address("m", 0), 4)


class Names(ErrorsTest):

    def missing(self):
        return anything() + ["o", "M", "mm", "", "x", ["m"], ("m",), nested(6)]

    def test_no_mapping(self):
        for name in self.missing():
            for call in (
                lambda machine: machine.unbind(name),
                lambda machine: machine.give(name),
                lambda machine: machine.take(name),
                lambda machine: machine.give(name, Run(3, 1)),
                lambda machine: machine.take(name, Run(3, 1)),
                lambda machine: machine.fetch(name, 3),
                lambda machine: machine.store(name, 3, 5),
                lambda machine: machine.address(name, 3),
            ):
                with self.subTest(name=name):
                    self.refused(NoMapping, call, name=name)

    def test_no_mapping_goes_before_parts_and_words(self):
        for wrong in (None, 99, Run(0, 16), "x"):
            for call in (
                lambda machine: machine.give("o", wrong),
                lambda machine: machine.take("o", wrong),
                lambda machine: machine.fetch("o", wrong),
                lambda machine: machine.store("o", wrong, 5),
                lambda machine: machine.address("o", wrong),
            ):
                self.refused(NoMapping, call, name="o")

    def test_a_mapping_that_is_gone(self):
        for batch in (0, 8):
            machine = used(Setting(batch=batch))
            machine.unbind("n")
            self.refused(NoMapping, lambda machine: machine.unbind("n"), machine, name="n")
            self.refused(NoMapping, lambda machine: machine.fetch("n", 12), machine, name="n")

    def test_no_device(self):
        for device in anything() + ["c", "A", "ab", "", "m", ["a"], ("a",), nested(6)]:
            if device != "a":
                for call in (
                    lambda machine: machine.land(device),
                    lambda machine: machine.peek(device, 0),
                    lambda machine: machine.poke(device, 0, 5),
                    lambda machine: machine.holes(device),
                    lambda machine: machine.under_way(device),
                    lambda machine: machine.sight(device),
                    lambda machine: machine.strays(device),
                ):
                    with self.subTest(device=device):
                        self.refused(NoDevice, call, name=device)


class Parts(ErrorsTest):

    def test_bad_parts(self):
        outside = [Run(1, 1), Run(8, 1), Run(1, 2), Run(7, 2), Run(2, 7), Run(1, 7), Run(0, 16), Run(12, 2),
                   Run(10 ** 12, 1), Run(0, 10 ** 12)]
        wrong = [value for value in no_runs() if value is not None]
        for part in wrong + objects() + outside + [(3, 1), [3, 1], [Run(3, 1)], (Run(3, 1),)]:
            with self.subTest(part=part):
                self.refused(BadPart, lambda machine: machine.give("m", part))
                self.refused(BadPart, lambda machine: machine.take("m", part))

    def test_good_parts(self):
        for first in range(2, 8):
            for many in range(1, 9 - first):
                machine = used()
                machine.give("m", Run(first, many))
                machine.take("m", Run(first, many))

    def test_refused_take_lands_nothing(self):
        machine = used()
        self.refused(BadPart, lambda machine: machine.take("m", Run(0, 3)), machine)
        self.assertEqual(machine.under_way("a"), 1)


class Words(ErrorsTest):

    def test_words_of_memory(self):
        for word in [-1, 16, 17, HUGE, -HUGE] + no_integers() + objects() + [Run(3, 1), [3], (3,), "3"]:
            for cached in (True, False):
                machine = used(Setting(cached=cached, batch=8))
                with self.subTest(word=word):
                    self.refused(BadWord, lambda machine: machine.read(word), machine)
                    self.refused(BadWord, lambda machine: machine.write(word, 5), machine)

    def test_words_of_the_run(self):
        for word in [-1, 0, 1, 8, 12, 16, HUGE, -HUGE] + no_integers() + objects() + [Run(3, 1), [3], (3,), "3"]:
            with self.subTest(word=word):
                self.refused(BadWord, lambda machine: machine.fetch("m", word))
                self.refused(BadWord, lambda machine: machine.store("m", word, 5))
                self.refused(BadWord, lambda machine: machine.address("m", word))

    def test_refused_fetch_lands_nothing(self):
        machine = used()
        self.refused(BadWord, lambda machine: machine.fetch("m", 8), machine)
        self.assertEqual(machine.under_way("a"), 1)

    def test_booleans_are_no_words(self):
        machine = Machine(1, DEVICES)
        machine.bind("m", "a", Run(0, 2), "both")
        for word in (True, False):
            self.refused(BadWord, lambda machine: machine.read(word), machine)
            self.refused(BadWord, lambda machine: machine.write(word, 5), machine)
            self.refused(BadWord, lambda machine: machine.fetch("m", word), machine)
            self.refused(BadWord, lambda machine: machine.store("m", word, 5), machine)
            self.refused(BadWord, lambda machine: machine.address("m", word), machine)

    def test_edges(self):
        machine = used()
        self.assertEqual([machine.read(0), machine.read(15)], [0, 0])
        self.assertEqual([machine.address("m", 2), machine.address("m", 7)], [2, 7])


class Waiting(ErrorsTest):

    def test_within_with(self):
        machine = Machine(1, DEVICES)
        with machine:
            machine.bind("m", "a", Run(0, 1), "to")
            machine.unbind("m")
            self.refused(NoMapping, lambda machine: machine.unbind("m"), machine, name="m")
            self.assertEqual(len(machine.waiting()), 1)


if __name__ == "__main__":
    unittest.main()
