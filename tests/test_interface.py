"""The whole interface: every name of it, how it is called, and that what is returned belongs to the caller."""

import copy
import importlib
import inspect
import random
import unittest

from devicewindows import errors
from devicewindows.drivers import look
from devicewindows.experiments import experiment
from devicewindows.judging import judge, unsafe
from devicewindows.lines import Lines
from devicewindows.loads import safe_load
from devicewindows.machine import Machine
from devicewindows.playing import first_breach, plain, play
from devicewindows.runs import Run, segments
from devicewindows.settings import DIRECTIONS, Book, Setting
from devicewindows.spaces import Space
from tests.machines import some_event, some_setting, state

FUNCTIONS = {
    "runs": {"segments": "(runs, *, longest, boundary=None)"},
    "playing": {
        "play": "(events, *, setting=None, pages=4, devices=('a', 'b'), calm=False)",
        "plain": "(events, *, pages=4, devices=('a', 'b'))",
        "first_breach": "(events, *, pages=4, devices=('a', 'b'))",
    },
    "drivers": {"look": "(driver, *, pages=4, devices=('a', 'b'))"},
    "experiments": {"experiment": "(driver, path, *, pages=4, devices=('a', 'b'))"},
    "judging": {"judge": "(book, *, copies)", "unsafe": "(setting)"},
    "loads": {"safe_load": "(pages, *, policy, greatest)"},
}

# For each class, how it is called, its methods and its properties.
CLASSES = {
    ("runs", "Run"): ("(first, many)", {
        "words": "()", "touched_lines": "()", "touched_pages": "()", "of_page": "(page)", "between": "(first, end)",
    }, ["end"]),
    ("lines", "Lines"): ("(words)", {
        "read": "(word)", "write": "(word, value)", "load": "(line)", "clean": "(line)", "drop": "(line)",
        "evict": "(line)",
    }, ["held"]),
    ("spaces", "Space"): ("(pages, policy='first')", {
        "take": "(many)", "give_back": "(run)", "holes": "()",
    }, ["free", "mark"]),
    ("settings", "Book"): (
        "(*, cleaned=('to', 'from', 'both'), dropped=('from', 'both'), bind_copied=('to', 'from', 'both'), "
        "give_copied=('to', 'from', 'both'), take_copied=('from', 'both'))", {}, []),
    ("settings", "Setting"): (
        "(*, copies='none', cached=False, batch=0, early=False, drain=True, policy='first', groups=16, tables=16, "
        "book=None)", {}, ["safe"]),
    ("machine", "Machine"): ("(pages, devices, setting=None)", {
        "bind": "(name, device, run, direction)", "unbind": "(name)", "give": "(name, part=None)",
        "take": "(name, part=None)", "flush": "()", "read": "(word)", "write": "(word, value)", "load": "(line)",
        "evict": "(line)", "land": "(device)", "peek": "(device, address)", "poke": "(device, address, value)",
        "fetch": "(name, word)", "store": "(name, word, value)", "address": "(name, word)", "owners": "()",
        "memory": "()", "holes": "(device)", "waiting": "()", "under_way": "(device)", "sight": "(device)",
        "strays": "(device)",
    }, ["held"]),
}

OPERATORS = {
    "Run": ["__eq__", "__contains__", "__and__", "__len__", "__repr__"],
    "Book": ["__eq__", "__repr__"],
    "Setting": ["__eq__", "__repr__"],
    "Machine": ["__enter__", "__exit__"],
}

NAMED_ERRORS = {
    "BadSetting": "field", "BadEvent": "index", "BadDriver": "index", "NoMapping": "name", "NoDevice": "name",
    "Busy": "name", "Full": "most", "TooMany": "most", "NoRoom": "many",
}


def signature(call, own=False):
    """How it is called, without its own object."""
    told = inspect.signature(call)
    rows = list(told.parameters.values())[1 if own else 0:]
    return str(told.replace(parameters=rows))


class Names(unittest.TestCase):

    def test_functions(self):
        for module, functions in FUNCTIONS.items():
            for name, told in functions.items():
                call = getattr(importlib.import_module(f"devicewindows.{module}"), name)
                self.assertEqual((signature(call), call.__module__), (told, f"devicewindows.{module}"))

    def test_classes(self):
        for (module, name), (told, methods, properties) in CLASSES.items():
            found = getattr(importlib.import_module(f"devicewindows.{module}"), name)
            own = vars(found)
            self.assertEqual(signature(found), told)
            for method, how in methods.items():
                self.assertIn(method, own)
                static = isinstance(own[method], (staticmethod, classmethod))
                self.assertEqual(signature(getattr(found, method), not static), how, (name, method))
            for method in properties:
                self.assertIsInstance(own[method], property)
            for method in OPERATORS.get(name, []):
                self.assertIn(method, own)
        self.assertEqual((Run.LINE, Run.PAGE), (2, 4))
        self.assertEqual(DIRECTIONS, ("to", "from", "both"))

    def test_errors(self):
        for name, attribute in NAMED_ERRORS.items():
            error = getattr(errors, name)(7)
            self.assertEqual(getattr(error, attribute), 7)


class Calls(unittest.TestCase):
    """Arguments that are passed by their names give what they give by their places."""

    PARAMETERS = {
        "bind": ("name", "device", "run", "direction"), "give": ("name", "part"), "take": ("name", "part"),
        "unbind": ("name",), "flush": (), "read": ("word",), "write": ("word", "value"), "load": ("line",),
        "evict": ("line",), "land": ("device",), "peek": ("device", "address"), "poke": ("device", "address", "value"),
        "fetch": ("name", "word"), "store": ("name", "word", "value"),
    }

    def both(self, call, names, values):
        """The result by places, which is that by names; the names are told in another order."""
        def result(told, more):
            try:
                return call(*told, **more)
            except (errors.WindowError, LookupError, RuntimeError, OverflowError) as error:
                return error.__class__, vars(error)

        first = result(values, {})
        named = dict(reversed(list(zip(names, values, strict=True))))
        self.assertEqual(result((), named), first)
        return first

    def test_machines(self):
        dice = random.Random(9)
        for _ in range(40):
            setting = some_setting(dice)
            machine, other = Machine(2, ["a", "b"], setting), Machine(setting=setting, devices=["a", "b"], pages=2)
            for _ in range(60):
                word, *values = some_event(dice, machine.owners(), 2, ["a", "b"], 40)
                if word in ("bind", "give", "take"):
                    at = 2 if word == "bind" else 1
                    values[at:at + 2] = [Run(*values[at:at + 2])]
                self.step(machine, other, word, values)
                for device in ("a", "b", "c", None):
                    for name in ("sight", "strays", "holes", "under_way"):
                        self.both(getattr(machine, name), ("device",), (device,))
                for name in ("m", "n", None):
                    self.both(machine.address, ("name", "word"), (name, 3))
            self.assertEqual(state(machine, ["a", "b"]), state(other, ["a", "b"]))

    def step(self, machine, other, word, values):
        found = []
        for call in (getattr(machine, word), getattr(other, word)):
            try:
                if call.__self__ is machine:
                    found.append(call(*values))
                else:
                    found.append(call(**dict(zip(self.PARAMETERS[word], values, strict=True))))
            except (errors.WindowError, LookupError, RuntimeError, OverflowError) as error:
                found.append((error.__class__, vars(error)))
        self.assertEqual(found[0], found[1])

    def test_other_classes(self):
        self.both(Run, ("first", "many"), (3, 4))
        self.both(Run, ("first", "many"), (3, 0))
        self.both(Run.between, ("first", "end"), (3, 4))
        self.both(Run.of_page, ("page",), (3,))
        self.assertEqual(Lines(words=[1, 2]).read(word=1), 2)
        for word, names, values in (("write", ("word", "value"), (1, 5)), ("load", ("line",), (0,)),
                                    ("clean", ("line",), (0,)), ("drop", ("line",), (0,)), ("evict", ("line",), (0,))):
            lines, other = Lines([1, 2]), Lines([1, 2])
            getattr(lines, word)(*values)
            getattr(other, word)(**dict(zip(names, values, strict=True)))
            self.assertEqual(lines.held, other.held)
        space = Space(policy="best", pages=8)
        self.assertEqual(space.take(many=3), Run(0, 3))
        space.give_back(run=Run(0, 3))
        self.assertEqual(space.free, 8)
        cut = segments([Run(0, 5)], longest=3, boundary=4)
        self.assertEqual(segments(runs=[Run(0, 5)], boundary=4, longest=3), cut)

    def test_playing(self):
        events = [("bind", "m", "a", 0, 1, "both"), ("store", "m", 0, 5), ("write", 0, 7)]
        told = {"pages": 4, "devices": ("a", "b")}
        self.assertEqual(play(events=events, setting=None, calm=False, **told), play(events))
        self.assertEqual(plain(events=events, **told), plain(events))
        self.assertEqual(first_breach(events=events, **told), first_breach(events))

    def test_what_stands_behind_the_star_has_no_place(self):
        for call, values in (
            (play, ([], Setting())), (plain, ([], 4)), (first_breach, ([], 4)), (look, ([], 4)),
            (experiment, ([], [], 4)), (judge, (Book(), "all")), (safe_load, (3, "first")), (Book, ((),)),
            (Setting, ("none",)), (segments, ([], 4)),
        ):
            with self.assertRaises(TypeError):
                call(*values)


class Lists(unittest.TestCase):

    DRIVER = [("bind", "m", "a", 0, 1, "both"), ("either", 0), ("read", 0)]

    def calls(self):
        """Calls, each of which gives an equal result whenever it is called."""
        machine = Machine(2, ["a", "b"], Setting(batch=4))
        machine.bind("m", "a", Run(0, 6), "both")
        machine.unbind("m")
        machine.bind("m", "a", Run(0, 2), "both")
        machine.store("m", 0, 5)
        return [
            machine.memory, machine.waiting, machine.owners, lambda: machine.holes("a"), lambda: machine.sight("a"),
            lambda: machine.strays("a"), lambda: list(Space(8).holes()), lambda: segments([Run(0, 5)], longest=2),
            lambda: play([("read", 0)]), lambda: plain([("read", 0)]), lambda: look(self.DRIVER[:2]),
            lambda: look(self.DRIVER[:1]), lambda: experiment(self.DRIVER[::2], [0, 1]),
            lambda: unsafe(Setting(drain=False)), lambda: judge(Book(cleaned=()), copies="none"),
            lambda: safe_load(3, policy="next", greatest=2),
        ]

    def spoilt(self, value):
        if isinstance(value, list):
            for part in value:
                self.spoilt(part)
            value.append("spoilt")
        if isinstance(value, tuple):
            for part in value:
                self.spoilt(part)

    def test_lists_belong_to_the_caller(self):
        for call in self.calls():
            first = call()
            kept = copy.deepcopy(first)
            self.spoilt(first)
            self.assertEqual(call(), kept)

    def test_results_depend_on_the_arguments_alone(self):
        for call in self.calls():
            self.assertEqual(call(), call())


if __name__ == "__main__":
    unittest.main()
