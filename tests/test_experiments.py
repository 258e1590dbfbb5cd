"""Experiments for breaches: the second part of point 13."""

import copy
import inspect
import itertools
import random
import unittest

from devicewindows.drivers import look
from devicewindows.errors import BadDriver, BadPath, WindowError
from devicewindows.experiments import experiment
from devicewindows.playing import play
from devicewindows.runs import Run
from devicewindows.settings import DIRECTIONS, Book, Setting
from tests.driving import breach, goals, lively_driver
from tests.shown import check_experiment
from tests.values import HUGE, nested, no_integers

BIND = ("bind", "m", "a", 0, 2, "both")
UNBIND = ("unbind", "m")
KINDS = ("read", "write", "line", "share")


def broken_walk(dice, driver, longest, pages, devices):
    """Any path to its first breach of the four kinds, None if this one has none."""
    path = [0]
    while path[-1] < len(driver) and len(path) <= longest:
        found = breach(driver, path, pages, devices)
        if found is not None:
            return path if found[0] in KINDS else None
        path = path + [dice.choice(goals(driver, path[-1]))]
    return None


class Experiments(unittest.TestCase):

    def shown(self, kind, word, *rows, path=None, pages=4, devices=("a", "b")):
        driver = list(rows)
        path = list(range(len(driver))) if path is None else path
        with self.subTest(driver=driver, path=path):
            self.assertEqual(breach(driver, path, pages, devices), (kind, word))
            result = experiment(driver, path, pages=pages, devices=devices)
            check_experiment(self, driver, path, result, pages, devices)

    def test_read(self):
        for direction, first, word in itertools.product(("from", "both"), (0, 1, 3), (0, 1, 4)):
            self.shown("read", first + word, ("bind", "m", "a", first, 5, direction), ("read", first + word))
            self.shown("read", first + word, ("write", first + word), ("bind", "m", "b", first, 5, direction),
                       ("read", first + word))

    def test_read_of_a_word_that_was_given(self):
        for direction in ("from", "both"):
            bind = ("bind", "m", "a", 0, 4, direction)
            self.shown("read", 1, bind, ("take", "m", 0, 4), ("write", 1), ("read", 1), ("give", "m", 1, 2),
                       ("read", 0), ("read", 3), ("read", 1))
            self.shown("read", 3, bind, ("take", "m", 0, 3), ("bind", "n", "b", 0, 3, direction), ("read", 3))

    def test_write(self):
        for direction, first, word in itertools.product(DIRECTIONS, (0, 1, 3), (0, 1, 4)):
            self.shown("write", first + word, ("bind", "m", "a", first, 5, direction), ("write", first + word))
            self.shown("write", first + word, ("write", first + word), ("bind", "m", "b", first, 5, direction),
                       ("write", first + word))

    def test_write_of_a_word_that_several_devices_own(self):
        binds = [("bind", name, device, 0, 2, "to") for name, device in zip("kmno", "abba")]
        for many in range(1, 5):
            self.shown("write", 1, *binds[:many], ("write", 1))

    def test_write_where_the_line_is_the_devices_too(self):
        for one, other in itertools.product(DIRECTIONS, repeat=2):
            self.shown("write", 1, ("bind", "m", "a", 0, 1, one), ("bind", "n", "b", 1, 1, other), ("write", 1))

    def test_line(self):
        for direction, word in itertools.product(("from", "both"), (2, 3)):
            bind = ("bind", "m", "a", 5 - word, 1, direction)
            self.shown("line", word, bind, ("write", word))
            self.shown("line", word, ("read", word), bind, ("write", word))
            self.shown("line", word, ("write", word), ("write", 5 - word), bind, ("write", word))
            self.shown("line", word, ("bind", "m", "b", 2, 2, direction), ("take", "m", word, 1), ("write", word))
            # Somebody else reads the same word's page.
            self.shown("line", word, ("bind", "k", "b", 0, 2, "to"), bind, ("bind", "n", "a", 6, 2, "both"),
                       ("write", word))

    def test_line_with_several_writes(self):
        for direction in ("from", "both"):
            bind = ("bind", "m", "a", 0, 2, direction)
            self.shown("line", 0, bind, ("take", "m", 0, 2), ("write", 0), ("write", 1), ("write", 0),
                       ("give", "m", 1, 1), ("write", 0))

    def test_share_by_bind(self):
        for one, other in itertools.product(DIRECTIONS, repeat=2):
            if (one, other) != ("to", "to"):
                for device, (first, many) in itertools.product("ab", ((2, 2), (0, 3), (3, 1), (0, 16))):
                    word = max(first, 2)
                    self.shown("share", word, ("write", word), ("bind", "m", "a", 2, 2, one),
                               ("bind", "n", device, first, many, other))

    def test_share_by_give(self):
        for one, other in itertools.product(DIRECTIONS, repeat=2):
            if (one, other) != ("to", "to"):
                for device in "ab":
                    self.shown("share", 2, ("bind", "m", "a", 0, 4, one), ("take", "m", 1, 3), ("read", 3),
                               ("bind", "n", device, 2, 3, other), ("give", "m", 0, 4))

    def test_share_with_several_others(self):
        to = [("bind", name, device, 0, 2, "to") for name, device in zip("kno", "abb")]
        for many, direction in itertools.product((2, 3), ("from", "both")):
            self.shown("share", 0, *to[:many], ("bind", "m", "a", 0, 1, direction))
        # The owner that counts is not the first one by name.
        self.shown("share", 1, ("bind", "k", "a", 0, 1, "to"), ("bind", "z", "b", 1, 1, "from"),
                   ("bind", "m", "a", 0, 2, "to"))
        self.shown("share", 1, ("bind", "z", "a", 0, 1, "to"), ("bind", "k", "b", 1, 1, "from"),
                   ("bind", "m", "a", 0, 2, "to"))

    def test_share_of_all_kinds_among_three(self):
        # The third device would own the word of the first one, which the second one owns only if both read.
        for one, two, three in itertools.product(DIRECTIONS, repeat=3):
            driver = [("bind", "n", "a", 0, 2, one), ("take", "n", 1, 1), ("bind", "k", "b", 1, 1, two),
                      ("bind", "m", "a", 0, 2, three)]
            result = look(driver)
            if result[0] == "breach":
                self.shown(result[2], result[3], *driver)
            else:
                self.assertEqual((one, two, three), ("to", "to", "to"))

    def test_paths_with_either_and_go_and_end(self):
        driver = [("go", 3), ("end",), ("write", 0), ("either", 1), ("either", 2), ("bind", "m", "a", 0, 1, "from"),
                  ("either", 9), ("take", "m", 0, 1), ("go", 2), ("read", 0)]
        for path in ([0, 3, 4, 5, 6, 9], [0, 3, 4, 2, 3, 4, 5, 6, 9]):
            self.shown("read", 0, *driver, path=path)
        driver[9] = ("write", 0)
        self.shown("write", 0, *driver, path=[0, 3, 4, 5, 6, 9])
        driver[7:9] = [("write", 1), ("end",)]
        self.shown("line", 1, *driver, path=[0, 3, 4, 2, 3, 4, 5, 6, 7])

    def test_long_paths(self):
        driver = [BIND, ("take", "m", 0, 2), ("write", 0), ("write", 1), UNBIND, ("either", 0),
                  ("bind", "m", "b", 1, 3, "from"), ("read", 2)]
        path = [0, 1, 2, 3, 4, 5] * 49 + [6, 7]
        self.assertEqual(len(path), 296)
        self.shown("read", 2, *driver, path=path)
        driver[-1] = ("write", 2)
        self.shown("write", 2, *driver, path=path)
        driver[-1] = ("write", 0)
        self.shown("line", 0, *driver, path=path)
        driver[-1] = ("bind", "n", "a", 0, 3, "from")
        self.shown("share", 1, *driver, path=path)
        loop = [("either", 2), ("go", 0), BIND, ("read", 1)]
        self.shown("read", 1, *loop, path=[0, 1] * 148 + [0, 2, 3])

    def test_24_rows(self):
        driver = [("either", 23)] + [BIND, ("take", "m", 1, 1), UNBIND] * 7 + [BIND, ("read", 1)]
        path = list(range(24))
        self.shown("read", 1, *driver, path=path)

    def test_other_pages_and_devices(self):
        for devices in (["zz"], ("q", "zz"), ["c", "zz", "a"]):
            share = ("bind", "n", devices[0], 48, 15, "both")
            for kind, word, row in (("read", 62, ("read", 62)), ("write", 62, ("write", 62)),
                                    ("line", 63, ("write", 63)), ("share", 62, share)):
                self.shown(kind, word, ("bind", "m", "zz", 62, 1, "from"), row, pages=16, devices=devices)
        for kind, row in (("read", ("read", 3)), ("write", ("write", 3)), ("share", ("bind", "n", "b", 0, 4, "to"))):
            self.shown(kind, 3, ("bind", "m", "b", 3, 1, "from"), row, pages=1, devices=["b"])

    def test_any_drivers(self):
        dice = random.Random(14)
        found = {}
        for _ in range(1500):
            pages = dice.choice([1, 4, 16])
            devices = dice.choice([["a"], ("a", "b"), ["c", "b", "d"]])
            driver = lively_driver(dice, dice.randint(2, 16), pages, devices)
            paths = [broken_walk(dice, driver, 60, pages, devices)]
            result = look(driver, pages=pages, devices=devices)
            if result[0] == "breach":
                paths.append(result[1])
            for path in paths:
                if path is not None:
                    kind = breach(driver, path, pages, devices)[0]
                    found[kind] = found.get(kind, 0) + 1
                    with self.subTest(driver=driver, path=path, pages=pages, devices=devices):
                        result = experiment(driver, path, pages=pages, devices=devices)
                        check_experiment(self, driver, path, result, pages, devices)
        self.assertEqual(set(found), set(KINDS))
        self.assertGreater(min(found.values()), 15)


class WrongCalls(unittest.TestCase):

    DRIVER = [BIND, ("either", 4), ("take", "m", 0, 2), ("read", 0), ("either", 1), ("read", 1), UNBIND, ("end",)]

    def bad_path(self, driver, path, **told):
        with self.subTest(driver=driver, path=path):
            with self.assertRaises(BadPath):
                experiment(driver, path, **told)

    def test_the_right_paths(self):
        for path in ([0, 1, 4, 5], [0, 1, 4, 1, 4, 1, 4, 5]):
            check_experiment(self, self.DRIVER, path, experiment(self.DRIVER, path))

    def test_kind_of_error(self):
        with self.assertRaises(WindowError):
            experiment(self.DRIVER, None)

    def test_no_lists(self):
        for path in [0, 1, -1, HUGE, -HUGE] + no_integers():
            self.bad_path(self.DRIVER, path)
        for path in ((0, 1, 4, 5), [(0, 1, 4, 5)], [[0, 1, 4, 5]], [[0], [1], [4], [5]], Setting(), Book(), "0145",
                     Run(0, 2), [Run(0, 2)], nested(6)):
            self.bad_path(self.DRIVER, path)

    def test_no_numbers_of_rows(self):
        for value in [-1, HUGE, -HUGE, 9] + no_integers():
            for at in range(4):
                path = [0, 1, 4, 5]
                path[at] = value
                self.bad_path(self.DRIVER, path)
        # True is 1, but it is no number.
        self.bad_path([BIND, ("read", 0)], [0, True])
        self.bad_path([BIND, ("read", 0)], [False, 1])
        self.bad_path([BIND, ("read", 0)], [-2, -1])

    def test_rows_in_another_order(self):
        for path in ([1, 4, 5], [0, 4, 5], [0, 1, 5], [0, 1, 4, 4, 5], [0, 0, 1, 4, 5], [0, 1, 2, 4, 5], [5], [4, 5],
                     [0, 1, 4, 1, 5], [0, 5], [0, 1, 4, 6], [0, 1, 4, 5, 5][1:]):
            self.bad_path(self.DRIVER, path)

    def test_paths_that_end_before_a_breach(self):
        for path in ([], [0], [0, 1], [0, 1, 4], [0, 1, 4, 1], [0, 1, 2, 3, 4]):
            self.bad_path(self.DRIVER, path)

    def test_paths_without_a_breach(self):
        for path in ([0, 1, 2, 3, 4, 5], [0, 1, 2, 3, 4, 5, 6], [0, 1, 2, 3, 4, 5, 6, 7], [0, 1, 2, 3, 4, 5, 6, 7, 8]):
            self.bad_path(self.DRIVER, path)
        for driver in ([], [("end",)], [("go", 1)], [("either", 1)], [BIND]):
            for path in ([], [0], [0, 1], [1]):
                self.bad_path(driver, path)

    def test_paths_that_go_on_behind_a_breach(self):
        for path in ([0, 1, 4, 5, 6], [0, 1, 4, 5, 6, 7], [0, 1, 4, 5, 5], [0, 1, 4, 5, None], [0, 1, 4, 5, 8]):
            self.bad_path(self.DRIVER, path)
        driver = [BIND, ("read", 0), ("read", 1), ("write", 0)]
        for path in ([0, 1, 2], [0, 1, 2, 3], [0, 2], [0, 3]):
            self.bad_path(driver, path)

    def test_refused(self):
        for driver in ([UNBIND], [BIND, BIND], [BIND, ("take", "m", 0, 3)], [BIND, ("give", "n", 0, 1)],
                       [BIND, ("bind", "m", "b", 0, 1, "both")],
                       [("bind", name, "a", 0, 1, "to") for name in "kmnop"]):
            path = list(range(len(driver)))
            self.assertEqual(look(driver), ("breach", path, "refused", None))
            self.bad_path(driver, path)
        # Behind the refused row there would be another breach.
        self.bad_path([BIND, ("take", "n", 0, 1), ("read", 0)], [0, 1, 2])

    def test_no_path_jumps_behind_an_end(self):
        driver = [BIND, ("end",), ("read", 0)]
        for path in ([0, 1], [0, 1, 2], [0, 2], [0, 1, 3]):
            self.bad_path(driver, path)

    def test_pages_and_devices_count(self):
        driver = [("bind", "m", "a", 16, 1, "both"), ("read", 16)]
        check_experiment(self, driver, [0, 1], experiment(driver, [0, 1], pages=5), pages=5)
        self.bad_driver(0, driver, [0, 1])
        self.bad_driver(0, driver, [0, 1], pages=16, devices=["b"])

    def bad_driver(self, index, driver, path, **told):
        with self.assertRaises(BadDriver) as caught:
            experiment(driver, path, **told)
        self.assertEqual(caught.exception.index, index)

    def test_bad_driver(self):
        for driver in [0, HUGE] + no_integers() + [tuple(self.DRIVER), [BIND] * 25]:
            if not isinstance(driver, list) or len(driver) > 24:
                self.bad_driver(None, driver, [0, 1])
        for row in [0, HUGE] + no_integers() + [("end", 1), ("either", 4), ("read", 16), ("fetch", "m", 0)]:
            if row != ("read", 1):
                self.bad_driver(1, [BIND, row, None], [0, 1])
        self.bad_driver(2, [BIND, ("read", 0), ("go", 4)], [0, 1])

    def test_bad_driver_comes_first(self):
        for path in [0, None, "a", [], [7], [None], nested(6)]:
            self.bad_driver(None, None, path)
            self.bad_driver(None, [None] * 25, path)
            self.bad_driver(1, [BIND, ("read", 16)], path)

    def test_more_states_than_may_be_looked_at(self):
        driver = [("bind", "m", "a", 0, 16, "from")]
        for word in range(11):
            driver += [("either", len(driver) + 2), ("take", "m", word, 1)]
        driver.append(("read", 15))
        path = [0, *range(1, 23), 23]
        check_experiment(self, driver, path, experiment(driver, path))


class Calls(unittest.TestCase):

    DRIVER = [("write", 0), BIND, ("write", 0)]

    def test_arguments(self):
        told = inspect.signature(experiment)
        self.assertEqual(str(told).replace('"', "'"), "(driver, path, *, pages=4, devices=('a', 'b'))")
        result = experiment(path=[0, 1, 2], driver=self.DRIVER, devices=("a", "b"), pages=4)
        self.assertEqual(result, experiment(self.DRIVER, [0, 1, 2]))
        with self.assertRaises(TypeError):
            experiment(self.DRIVER, [0, 1, 2], 4)

    def test_arguments_stay_as_they_are(self):
        driver, path, devices = [BIND, ("either", 2), ("read", 0)], [0, 1, 2], ["a"]
        kept = copy.deepcopy((driver, path, devices))
        experiment(driver, path, devices=devices)
        self.assertEqual((driver, path, devices), kept)

    def test_results_are_new(self):
        first, again = experiment(self.DRIVER, [0, 1, 2]), experiment(self.DRIVER, [0, 1, 2])
        first[0].clear()
        first[1].drain = False
        first[2].book.cleaned = ()
        self.assertEqual(experiment(self.DRIVER, [0, 1, 2]), again)
        events, one, other = again
        self.assertIsNot(one, other)
        self.assertIsNot(one.book, other.book)
        self.assertNotEqual(play(events, setting=one), play(events, setting=other))

    def test_names_are_only_names(self):
        other = [("write", 0), ("bind", "zz", "q", 0, 2, "both"), ("write", 0)]
        check_experiment(self, other, [0, 1, 2], experiment(other, [0, 1, 2], devices=["p", "q"]), devices=["p", "q"])


if __name__ == "__main__":
    unittest.main()
