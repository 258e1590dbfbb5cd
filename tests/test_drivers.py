"""Drivers, their rows and paths, and which of them are careful: point 12."""

import copy
import inspect
import random
import unittest

from devicewindows.drivers import look
from devicewindows.errors import BadDriver, TooMany, WindowError
from devicewindows.runs import Run
from devicewindows.settings import DIRECTIONS, Book, Setting
from tests.driving import all_states, careful_driver, first_broken, lively_driver, some_driver
from tests.values import HUGE, nested, no_integers

BIND = ("bind", "m", "a", 0, 2, "both")
UNBIND = ("unbind", "m")
REFUSED = ("unbind", "x")


def rows(*marks, name="m", device="a", first=0, direction="both"):
    """The owners when one mapping is bound, for each of the marks."""
    return [((name, device, first, len(mark), direction, mark),) for mark in marks]


# With these the driver of 23 rows has 3999 states, and a first row before the takes has one more.
TAKES = [(8, 1), (11, 1), (4, 1), (2, 1), (7, 1), (3, 2), (6, 1), (1, 1), (9, 1), (5, 1), (2, 2)]


def some_taken(takes, *before):
    """A driver that may do each of the takes or leave it out."""
    driver = [("bind", "m", "a", 0, 16, "to"), *before]
    for first, many in takes:
        driver += [("either", len(driver) + 2), ("take", "m", first, many)]
    return driver


class Careful(unittest.TestCase):

    def test_no_rows(self):
        self.assertEqual(look([]), ("careful", [(0, ())]))

    def test_owners(self):
        driver = [("bind", "m", "a", 1, 3, "both"), ("take", "m", 2, 1), ("read", 2), ("write", 0), ("give", "m", 2, 2),
                  ("unbind", "m")]
        driver[3] = ("write", 5)
        whole, part = rows("ddd", "dpd", first=1)
        self.assertEqual(look(driver), ("careful", [
            (0, ()), (1, whole), (2, part), (3, part), (4, part), (5, whole), (6, ()),
        ]))

    def test_owners_are_ascending(self):
        driver = [("bind", "n", "a", 0, 1, "to"), ("bind", "k", "b", 4, 2, "from"), ("bind", "m", "a", 0, 1, "to"),
                  ("bind", "ab", "b", 8, 1, "both")]
        n, k = ("n", "a", 0, 1, "to", "d"), ("k", "b", 4, 2, "from", "dd")
        m, ab = ("m", "a", 0, 1, "to", "d"), ("ab", "b", 8, 1, "both", "d")
        self.assertEqual(look(driver), ("careful", [
            (0, ()), (1, (n,)), (2, (k, n)), (3, (k, m, n)), (4, (ab, k, m, n)),
        ]))

    def test_either(self):
        driver = [("bind", "m", "a", 1, 2, "both"), ("take", "m", 1, 1), ("either", 4), ("give", "m", 1, 1),
                  ("unbind", "m")]
        both, part = rows("dd", "pd", first=1)
        self.assertEqual(look(driver), ("careful", [
            (0, ()), (1, both), (2, part), (3, part), (4, both), (4, part), (5, ()),
        ]))

    def test_states_are_ascending(self):
        driver = [("either", 2), ("bind", "m", "a", 0, 1, "to"), ("bind", "k", "b", 0, 1, "to"), ("end",)]
        m, k = ("m", "a", 0, 1, "to", "d"), ("k", "b", 0, 1, "to", "d")
        self.assertEqual(look(driver), ("careful", [
            (0, ()), (1, ()), (2, ()), (2, (m,)), (3, (k,)), (3, (k, m)), (4, (k,)), (4, (k, m)),
        ]))

    def test_either_to_its_own_row_and_to_the_first_and_behind_the_last(self):
        self.assertEqual(look([("either", 0)]), ("careful", [(0, ()), (1, ())]))
        self.assertEqual(look([("either", 1)]), ("careful", [(0, ()), (1, ())]))
        self.assertEqual(look([("read", 0), ("either", 1)]), ("careful", [(0, ()), (1, ()), (2, ())]))
        self.assertEqual(look([("read", 0), ("either", 0)]), ("careful", [(0, ()), (1, ()), (2, ())]))
        self.assertEqual(look([("either", 3), REFUSED, REFUSED])[:2], ("breach", [0, 1]))
        self.assertEqual(look([("either", 3), ("go", 1), REFUSED]), ("careful", [(0, ()), (1, ()), (3, ())]))

    def test_go_to_its_own_row_and_to_the_first_and_behind_the_last(self):
        self.assertEqual(look([("go", 0)]), ("careful", [(0, ())]))
        self.assertEqual(look([("read", 0), ("go", 1)]), ("careful", [(0, ()), (1, ())]))
        self.assertEqual(look([("read", 0), ("go", 0)]), ("careful", [(0, ()), (1, ())]))
        self.assertEqual(look([("go", 2), REFUSED]), ("careful", [(0, ()), (2, ())]))
        self.assertEqual(look([("go", 2), REFUSED, ("go", 4), REFUSED]), ("careful", [(0, ()), (2, ()), (4, ())]))

    def test_loop(self):
        driver = [BIND, ("either", 4), UNBIND, ("go", 0), ("take", "m", 0, 2), ("read", 0), ("write", 1),
                  ("give", "m", 1, 1), UNBIND]
        whole, part, last = rows("dd", "pp", "pd")
        self.assertEqual(look(driver), ("careful", [
            (0, ()), (1, whole), (2, whole), (3, ()), (4, whole), (5, part), (6, part), (7, part), (8, last), (9, ()),
        ]))
        driver = [BIND, UNBIND, ("go", 0), REFUSED]
        self.assertEqual(look(driver), ("careful", [(0, ()), (1, whole), (2, ())]))

    def test_end(self):
        self.assertEqual(look([("end",), REFUSED]), ("careful", [(0, ()), (2, ())]))
        self.assertEqual(look([("either", 2), ("end",), BIND]), ("careful", [
            (0, ()), (1, ()), (2, ()), (3, ()), (3, rows("dd")[0]),
        ]))

    def test_rows_that_are_never_executed(self):
        driver = [("go", 3), REFUSED, ("read", 0), BIND]
        self.assertEqual(look(driver), ("careful", [(0, ()), (3, ()), (4, rows("dd")[0])]))

    def test_24_rows(self):
        driver = [("read", 0)] * 24
        self.assertEqual(look(driver), ("careful", [(number, ()) for number in range(25)]))
        driver = [("either", 24)] + [BIND, UNBIND] * 11 + [("go", 0)]
        self.assertEqual(look(driver)[0], "careful")
        self.assertEqual(look([("read", 0)] * 23 + [REFUSED]), ("breach", list(range(24)), "refused", None))

    def test_4000_states(self):
        driver = some_taken(TAKES, ("read", 0))
        word, states = look(driver)
        self.assertEqual((word, len(states), len(driver)), ("careful", 4000, 24))
        self.assertEqual(states, sorted(states))
        self.assertEqual(len(set(states)), 4000)


class Refused(unittest.TestCase):

    def refused(self, *driver):
        path = list(range(len(driver)))
        self.assertEqual(look(list(driver)), ("breach", path, "refused", None))
        self.assertEqual(look(list(driver) + [("end",)]), ("breach", path, "refused", None))

    def test_names_that_are_not_bound(self):
        for row in (UNBIND, ("give", "m", 0, 1), ("take", "m", 0, 1)):
            self.refused(row)
            self.refused(("bind", "n", "a", 0, 1, "to"), row)
            self.refused(BIND, UNBIND, row)

    def test_a_name_that_is_bound(self):
        self.refused(BIND, BIND)
        self.refused(BIND, ("bind", "m", "b", 8, 1, "to"))
        self.assertEqual(look([BIND, UNBIND, BIND])[0], "careful")

    def test_a_fifth_mapping(self):
        four = [("bind", name, device, 0, 16, "to") for name, device in zip("kmno", "abab")]
        self.assertEqual(look(four)[0], "careful")
        self.refused(*four, ("bind", "p", "a", 0, 1, "to"))
        self.refused(*four, ("bind", "p", "b", 0, 1, "to"))
        self.assertEqual(look(four + [("unbind", "n"), ("bind", "p", "b", 0, 1, "to")])[0], "careful")

    def test_parts_that_are_none(self):
        bind = ("bind", "m", "a", 4, 3, "both")
        for word in ("give", "take"):
            for first, many in ((3, 1), (7, 1), (3, 2), (6, 2), (4, 4), (3, 4), (3, 5), (0, 1), (15, 1), (0, 16)):
                self.refused(bind, (word, "m", first, many))
            for first, many in ((4, 1), (6, 1), (4, 3), (5, 2), (5, 1)):
                self.assertEqual(look([bind, (word, "m", first, many)])[0], "careful")

    def test_before_other_kinds(self):
        # The device would own words twice.
        self.refused(BIND, ("bind", "m", "b", 0, 2, "both"))
        four = [("bind", name, "a", 4 * step, 4, "both") for step, name in enumerate("kmno")]
        self.refused(*four, ("bind", "p", "a", 0, 1, "both"))
        driver = [BIND, ("take", "m", 0, 2), ("bind", "n", "b", 0, 3, "both"), ("give", "m", 0, 3)]
        self.refused(*driver)

    def test_never_for_want_of_room_or_tables(self):
        four = [("bind", name, "a", 3, 13, "to") for name in "kmno"]
        again = []
        for name in "omkn":
            again += [("unbind", name), ("bind", name, "a", 4, 1, "to"), ("unbind", name),
                      ("bind", name, "a", 3, 13, "to")]
        self.assertEqual(look(four + again)[0], "careful")
        self.assertEqual(look(four + again + [("go", 4)])[0], "careful")


class Breaches(unittest.TestCase):

    def breach(self, kind, word, *driver, **told):
        path = list(range(len(driver)))
        self.assertEqual(look(list(driver), **told), ("breach", path, kind, word))

    def test_read(self):
        for direction in ("from", "both"):
            for word in (0, 1):
                self.breach("read", word, ("bind", "m", "a", 0, 2, direction), ("read", word))
        self.assertEqual(look([("bind", "m", "a", 0, 2, "to"), ("read", 1)])[0], "careful")
        self.assertEqual(look([BIND, ("read", 2), ("take", "m", 1, 1), ("read", 1)])[0], "careful")

    def test_write(self):
        for direction in DIRECTIONS:
            self.breach("write", 1, ("bind", "m", "a", 0, 2, direction), ("write", 1))
            # In the line, too, there is a word of the device's.
            self.breach("write", 0, ("bind", "m", "a", 0, 2, direction), ("take", "m", 1, 1), ("write", 0))

    def test_line(self):
        for direction in ("from", "both"):
            self.breach("line", 1, ("bind", "m", "a", 0, 1, direction), ("write", 1))
            self.breach("line", 2, ("bind", "m", "a", 3, 1, direction), ("write", 2))
            self.breach("line", 0, ("bind", "m", "a", 0, 2, direction), ("take", "m", 0, 1), ("write", 0))
            self.assertEqual(look([("bind", "m", "a", 1, 2, direction), ("write", 4)])[0], "careful")
        self.assertEqual(look([("bind", "m", "a", 0, 1, "to"), ("write", 1)])[0], "careful")

    def test_share(self):
        for one, other in (("to", "from"), ("from", "to"), ("both", "to"), ("from", "from"), ("both", "both")):
            for device in ("a", "b"):
                bind = ("bind", "m", "a", 2, 4, one)
                self.breach("share", 4, bind, ("take", "m", 2, 2), ("bind", "n", device, 0, 9, other))
                self.breach("share", 3, bind, ("take", "m", 2, 4), ("bind", "n", device, 3, 2, other),
                            ("give", "m", 2, 4))
                self.assertEqual(look([bind, ("take", "m", 2, 3), ("bind", "n", device, 0, 5, other)])[0], "careful")
        self.assertEqual(look([("bind", "m", "a", 0, 2, "to"), ("bind", "n", "b", 0, 2, "to")])[0], "careful")

    def test_share_is_only_for_words_that_change_hands(self):
        driver = [BIND, ("give", "m", 0, 2)]
        self.assertEqual(look(driver)[0], "careful")
        driver = [BIND, ("take", "m", 0, 1), ("bind", "n", "b", 0, 1, "both"), ("give", "m", 1, 1)]
        self.assertEqual(look(driver)[0], "careful")
        self.breach("share", 0, *driver, ("give", "m", 0, 2))

    def test_the_first_row_may_be_a_breach(self):
        self.assertEqual(look([REFUSED]), ("breach", [0], "refused", None))

    def test_paths_end_at_their_breach(self):
        # Behind the first breach there would be states without end of the list.
        self.breach("read", 0, BIND, ("read", 0))
        self.assertEqual(look([BIND, ("read", 0), ("go", 9)] + [REFUSED] * 6 + [("go", 9)])[1], [0, 1])


class ShortestPath(unittest.TestCase):

    def test_shortest(self):
        driver = [("either", 3), ("read", 0), REFUSED, ("go", 5), REFUSED, ("go", 6), REFUSED]
        self.assertEqual(look(driver), ("breach", [0, 1, 2], "refused", None))
        driver = [("either", 4), ("read", 0), ("read", 0), REFUSED, BIND, ("write", 1)]
        self.assertEqual(look(driver), ("breach", [0, 4, 5], "write", 1))

    def test_first_of_several(self):
        driver = [BIND, ("either", 3), ("read", 1), ("read", 0)]
        self.assertEqual(look(driver), ("breach", [0, 1, 2], "read", 1))
        driver = [BIND, ("either", 1), ("either", 4), ("read", 1), ("write", 0)]
        self.assertEqual(look(driver), ("breach", [0, 1, 2, 3], "read", 1))
        # The lower row stands behind the higher one.
        driver = [("go", 4), BIND, ("write", 0), ("end",), ("either", 6), ("either", 1), BIND, ("go", 8), ("read", 1)]
        self.assertEqual(look(driver), ("breach", [0, 4, 5, 1, 2], "write", 0))
        driver = [("go", 4), BIND, ("write", 0), ("end",), ("either", 1), BIND, ("read", 1)]
        self.assertEqual(look(driver), ("breach", [0, 4, 1, 2], "write", 0))

    def test_with_the_same_row(self):
        # Both paths end with row 4, but only one of them is a breach there, and this is the second one.
        driver = [BIND, ("either", 3), ("take", "m", 0, 2), ("either", 4), ("read", 0)]
        self.assertEqual(look(driver), ("breach", [0, 1, 3, 4], "read", 0))
        driver = [BIND, ("either", 4), ("take", "m", 0, 1), ("go", 5), ("take", "m", 1, 1), ("read", 0)]
        self.assertEqual(look(driver), ("breach", [0, 1, 4, 5], "read", 0))

    def test_through_a_loop(self):
        driver = [("either", 4), BIND, ("take", "m", 0, 2), ("go", 0), ("either", 7), ("read", 0), ("end",), BIND,
                  ("read", 1)]
        self.assertEqual(look(driver), ("breach", [0, 4, 7, 8], "read", 1))
        driver = [BIND, ("either", 0)]
        self.assertEqual(look(driver), ("breach", [0, 1, 0], "refused", None))
        driver = [BIND, ("take", "m", 0, 1), ("read", 0), ("either", 5), ("end",), ("give", "m", 0, 1), ("go", 2)]
        self.assertEqual(look(driver), ("breach", [0, 1, 2, 3, 5, 6, 2], "read", 0))

    def test_any_drivers(self):
        dice = random.Random(12)
        found = {}
        for step in range(1000):
            pages = dice.choice([1, 4])
            devices = dice.choice([["a"], ("a", "b"), ["c", "b"]])
            make = some_driver if step % 3 == 0 else lively_driver
            driver = make(dice, dice.randint(1, 14), pages, devices)
            with self.subTest(driver=driver, pages=pages, devices=devices):
                result = look(driver, pages=pages, devices=devices)
                broken = first_broken(driver, 6, pages, devices)
                if result[0] == "careful":
                    self.assertIsNone(broken)
                    self.assertEqual(result[1], all_states(driver, pages, devices))
                elif len(result[1]) > 6:
                    self.assertIsNone(broken)
                else:
                    self.assertEqual(result, ("breach", *broken))
            kind = result[0] if result[0] == "careful" else result[2]
            found[kind] = found.get(kind, 0) + 1
        self.assertEqual(set(found), {"careful", "refused", "read", "write", "line", "share"})
        self.assertGreater(min(found.values()), 5)

    def test_any_careful_drivers(self):
        dice = random.Random(21)
        for many in (5, 8, 12, 16, 20, 24):
            driver = careful_driver(dice, many)
            with self.subTest(driver=driver):
                self.assertEqual(look(driver), ("careful", all_states(driver)))


class WrongDrivers(unittest.TestCase):

    def wrong(self, index, driver, **told):
        with self.assertRaises(BadDriver) as caught:
            look(driver, **told)
        self.assertEqual(caught.exception.index, index)
        self.assertNotIsInstance(caught.exception.index, bool)

    def test_kind_of_error(self):
        with self.assertRaises(WindowError):
            look(None)

    def test_no_lists(self):
        for driver in [0, 1, -1, HUGE, -HUGE] + no_integers():
            if not isinstance(driver, list):
                self.wrong(None, driver)
        for driver in (tuple([BIND, UNBIND]), BIND, ((),), Setting(), Book()):
            self.wrong(None, driver)

    def test_too_many_rows(self):
        self.wrong(None, [("read", 0)] * 25)
        self.wrong(None, [("read", 0)] * 300)
        self.wrong(None, [None] * 25)
        self.wrong(None, [("read", 99)] + [("read", 0)] * 24)
        self.wrong(0, [None] * 24)

    def test_rows_that_are_no_events(self):
        others = [0, 1, -1, HUGE, -HUGE] + no_integers()
        others.remove(("read", 1))
        for row in others:
            self.wrong(0, [row])
            self.wrong(1, [BIND, row, UNBIND])
        for row in [list(BIND), list(UNBIND), ["end"], "end", ("start",), ("Read", 1), ("read ", 1), (0, 1), ((), 1),
                    (None,), (True,), (("read",), 1), (["end"],), (Run(0, 1),), ("",), (("end",),)]:
            self.wrong(0, [row])

    def test_rows_of_other_events(self):
        for row in [("fetch", "m", 0), ("store", "m", 0, 1), ("store", "m", 0), ("peek", "a", 0), ("poke", "a", 0, 1),
                    ("load", 0), ("evict", 0), ("land", "a"), ("flush",), ("write", 0, 1)]:
            self.wrong(1, [BIND, row])

    def test_wrong_lengths(self):
        for row in [BIND, UNBIND, ("give", "m", 0, 1), ("take", "m", 0, 1), ("read", 0), ("write", 0), ("either", 0),
                    ("go", 0), ("end",)]:
            self.assertIsInstance(look([row]), tuple)
            self.wrong(0, [row + (0,)])
            self.wrong(0, [row + (None,)])
            self.wrong(0, [row[:-1]])
            self.wrong(0, [row[:1] * (1 + (len(row) == 1))])

    def test_names(self):
        for name in [0, HUGE] + no_integers() + ["abcdefghi", "A", "mM", "m1", "m ", "m_", ""]:
            if name != "a":
                for row in (("bind", name, "a", 0, 1, "to"), ("unbind", name), ("give", name, 0, 1),
                            ("take", name, 0, 1)):
                    self.wrong(0, [row])
        for name in ("a", "z", "abcdefgh", "bind", "end", "go"):
            driver = [("bind", name, "a", 0, 1, "to"), ("take", name, 0, 1), ("give", name, 0, 1), ("unbind", name)]
            found = rows("d", "p", "d", name=name, direction="to")
            self.assertEqual(look(driver), ("careful", list(enumerate([(), *found, ()]))))

    def test_devices(self):
        for device in [0, HUGE] + no_integers() + ["c", "A", "ab"]:
            if device != "a":
                self.wrong(0, [("bind", "m", device, 0, 1, "to")])
        self.wrong(0, [("bind", "m", "a", 0, 1, "to")], devices=["b", "c"])
        self.wrong(1, [("bind", "m", "c", 0, 1, "to"), ("bind", "n", "d", 0, 1, "to")], devices=("b", "c"))
        for devices in (["x"], ("x", "a"), ["y", "a", "x"]):
            self.assertEqual(look([("bind", "m", "x", 0, 1, "to")], devices=devices), (
                "careful", [(0, ()), (1, (("m", "x", 0, 1, "to", "d"),))]))

    def test_directions(self):
        for direction in [0, HUGE] + no_integers() + ["To", "to ", ("to",), ["to"], "tofrom", DIRECTIONS]:
            self.wrong(0, [("bind", "m", "a", 0, 1, direction)])

    def test_words(self):
        for word in [-1, 16, HUGE, -HUGE] + no_integers():
            self.wrong(0, [("read", word)])
            self.wrong(0, [("write", word)])
        for pages in (1, 2, 16):
            last = 4 * pages - 1
            self.assertEqual(look([("read", last), ("write", last)], pages=pages)[0], "careful")
            self.wrong(1, [("read", 0), ("read", last + 1)], pages=pages)
            self.wrong(1, [("read", 0), ("write", last + 1)], pages=pages)

    def test_runs(self):
        def three(first, many):
            return [("bind", "m", "a", first, many, "to"), ("give", "m", first, many), ("take", "m", first, many)]

        for value in [-1, HUGE, -HUGE] + no_integers():
            for row in three(value, 1) + three(0, value):
                self.wrong(0, [row])
        for row in three(0, 0) + three(0, 17) + three(1, 16) + three(15, 2) + three(16, 1) + three(-1, 2):
            self.wrong(0, [row])
        for row in three(0, 17) + three(47, 17) + three(48, 17) + three(49, 16) + three(63, 2) + three(64, 1):
            self.wrong(0, [row], pages=16)
        for row in three(0, 5) + three(3, 2) + three(4, 1):
            self.wrong(0, [row], pages=1)
        for first, many in ((0, 16), (48, 16), (63, 1), (40, 16)):
            self.assertEqual(look(three(first, many), pages=16)[0], "careful")
        self.assertEqual(look(three(0, 4), pages=1)[0], "careful")

    def test_goals(self):
        for word in ("either", "go"):
            for row in [-1, HUGE, -HUGE] + no_integers():
                self.wrong(0, [(word, row)])
            for many in (1, 2, 24):
                driver = [("read", 0)] * (many - 1) + [(word, many)]
                self.assertEqual(look(driver)[0], "careful")
                self.wrong(many - 1, driver[:-1] + [(word, many + 1)])

    def test_least_row(self):
        driver = [BIND, UNBIND, ("read", 16), ("read", 15), ("read", 99), None]
        self.wrong(2, driver)
        self.wrong(0, [nested(6)] + driver)
        self.wrong(4, driver, pages=16)
        self.wrong(0, driver, pages=16, devices=["b"])

    def test_rows_that_are_never_executed_are_checked(self):
        self.wrong(1, [("end",), ("read", 16)])
        self.wrong(2, [REFUSED, ("end",), None])

    def test_before_too_many(self):
        driver = many_states()[:-1] + [("read", 16)]
        self.wrong(len(driver) - 1, driver)


def many_states():
    """A driver of 23 rows with more than 4000 states."""
    return some_taken([(word, 1) for word in range(11)])


def moved(rows, many):
    """The rows as they are when so many stand before them."""
    return [(row[0], row[1] + many) if row[0] == "either" else row for row in rows]


class Many(unittest.TestCase):

    def too_many(self, driver):
        with self.assertRaises(TooMany) as caught:
            look(driver)
        self.assertEqual(caught.exception.most, 4000)

    def test_too_many_states(self):
        self.too_many(many_states())
        self.too_many(many_states() + [("go", 1)])

    def test_4001_states(self):
        driver = some_taken(TAKES)
        self.assertEqual(len(look(driver)[1]), 3999)
        # Behind the first take each row stands in two states.
        self.too_many(driver[:3] + [("read", 0)] + moved(driver[3:], 1))

    def test_a_breach_beside_too_many_states(self):
        # The breach is near, or far.
        self.too_many([("either", 2), REFUSED] + moved(many_states()[:21], 2) + [("read", 15)])
        self.too_many(many_states() + [REFUSED])
        self.too_many(many_states() + [("write", 14)])

    def test_states_before_a_breach_count(self):
        # There are 5,119 states, and 1,536 of them are about to execute the last row, which is a breach.
        takes = [(word, 1) for word in range(8)] + [(11, 1), (11, 2), (8, 3)]
        self.too_many(some_taken(takes) + [REFUSED])
        # Here there are 3,071, with 1,024 before the breach.
        driver = many_states()[:21] + [REFUSED]
        self.assertEqual(look(driver), ("breach", [0] + list(range(1, 21, 2)) + [21], "refused", None))


class Calls(unittest.TestCase):

    DRIVER = [BIND, ("either", 3), ("take", "m", 0, 1), UNBIND]

    def test_arguments(self):
        told = inspect.signature(look)
        self.assertEqual(str(told).replace('"', "'"), "(driver, *, pages=4, devices=('a', 'b'))")
        self.assertEqual(look(driver=self.DRIVER, pages=4, devices=("a", "b")), look(self.DRIVER))
        self.assertEqual(look(self.DRIVER, devices=["b", "a"], pages=9), look(self.DRIVER))
        with self.assertRaises(TypeError):
            look(self.DRIVER, 4)

    def test_the_driver_stays_as_it_is(self):
        for driver in (self.DRIVER, [BIND, ("read", 0)], many_states()):
            kept = copy.deepcopy(driver)
            devices = ["a", "b"]
            try:
                look(driver, devices=devices)
            except TooMany:
                pass
            self.assertEqual((driver, devices), (kept, ["a", "b"]))

    def test_the_lists_are_new(self):
        first, again = look(self.DRIVER), look(self.DRIVER)
        first[1].clear()
        self.assertEqual(look(self.DRIVER), again)
        driver = [BIND, ("read", 0)]
        first, again = look(driver), look(driver)
        first[1].append(7)
        self.assertEqual(look(driver), again)

    def test_kinds_of_the_results(self):
        word, states = look(self.DRIVER)
        self.assertIsInstance(states, list)
        for state in states:
            self.assertIsInstance(state, tuple)
            row, owners = state
            self.assertIsInstance(row, int)
            self.assertIsInstance(owners, tuple)
            for found in owners:
                self.assertEqual([value.__class__ for value in found], [str, str, int, int, str, str])
        result = look([BIND, ("read", 0)])
        self.assertIsInstance(result, tuple)
        self.assertIsInstance(result[1], list)

    def test_names_are_only_names(self):
        dice = random.Random(8)
        names, devices = {"m": "zz", "n": "b", "k": "ya"}, {"a": "q", "b": "c"}

        def renamed(row):
            if row[0] in ("bind", "unbind", "give", "take"):
                row = (row[0], names[row[1]], *row[2:])
            return (*row[:2], devices[row[2]], *row[3:]) if row[0] == "bind" else row

        for _ in range(300):
            driver = lively_driver(dice, dice.randint(2, 12))
            result = look(driver)
            other = look([renamed(row) for row in driver], devices=("q", "c"))
            if result[0] == "breach":
                self.assertEqual(other, result)
            else:
                states = [(number, tuple(sorted((names[row[0]], devices[row[1]], *row[2:]) for row in owners)))
                          for number, owners in result[1]]
                self.assertEqual(other, ("careful", sorted(states)))


if __name__ == "__main__":
    unittest.main()
