"""Books judged, and settings that are not safe: the points 14 and 15."""

import copy
import inspect
import itertools
import random
import unittest

from devicewindows.judging import judge, unsafe
from devicewindows.machine import Machine
from devicewindows.playing import first_breach, plain, play
from devicewindows.settings import Book, Setting
from tests.judged import first_wrong
from tests.machines import POLICIES, TUPLES, do, safe_setting, some_book, some_setting
from tests.model import ModelMachine

DUTIES = {"none": ("cleaned", "dropped"), "all": ("bind_copied", "give_copied", "take_copied")}

TAKE, GIVE, FETCH, READ = ("take", "m", 0, 1), ("give", "m", 0, 1), ("fetch", "m", 0), ("read", 0)


def bind(direction):
    return "bind", "m", "a", 0, 1, direction


def store(value):
    return "store", "m", 0, value


def without(duty, *directions):
    """The standard book, but this duty is not done for these directions."""
    return Book(**{duty: tuple(word for word in getattr(Book(), duty) if word not in directions)})


def answers(events, book, copies):
    return play(events, setting=Setting(copies=copies, cached=True, book=book), pages=1, devices=["a"])


class Judge(unittest.TestCase):

    def wrong(self, copies, book, events):
        self.assertEqual(judge(book, copies=copies), ("wrong", events), (copies, book))

    def test_the_standard_book_is_right(self):
        for copies in ("none", "all"):
            self.assertEqual(judge(Book(), copies=copies), ("right",))

    def test_cleaned_for_two_directions(self):
        self.wrong("none", without("cleaned", "to"), [("write", 0, 1), bind("to"), FETCH])
        self.wrong("none", without("cleaned", "both"), [("write", 0, 1), bind("both"), FETCH])
        # What the device did not store is lost with the line.
        self.wrong("none", without("cleaned", "from"), [("write", 0, 1), bind("from"), TAKE, READ])

    def test_dropped_for_one_direction_or_three(self):
        for direction in ("from", "both"):
            self.wrong("none", without("dropped", direction), [bind(direction), ("load", 0), store(3), TAKE, READ])
        # The device may read only, so the other word of the line may be written meanwhile.
        self.wrong("none", Book(dropped=("to", "from", "both")), [bind("to"), ("write", 1, 2), TAKE, ("read", 1)])

    def test_bind_copied_for_two_directions(self):
        self.wrong("all", without("bind_copied", "to"), [("write", 0, 1), bind("to"), FETCH])
        self.wrong("all", without("bind_copied", "both"), [("write", 0, 1), bind("both"), FETCH])
        self.wrong("all", without("bind_copied", "from"), [("write", 0, 1), bind("from"), TAKE, READ])

    def test_give_copied_for_two_directions(self):
        for direction in ("to", "both"):
            self.wrong("all", without("give_copied", direction), [
                bind(direction), TAKE, ("write", 0, 3), GIVE, FETCH])
        self.wrong("all", without("give_copied", "from"), [bind("from"), TAKE, ("write", 0, 3), GIVE, TAKE, READ])

    def test_take_copied_for_one_direction_or_three(self):
        for direction in ("from", "both"):
            self.wrong("all", without("take_copied", direction), [bind(direction), store(2), TAKE, READ])
        # This copy has the values of memory, so nothing is wrong with writing them back.
        self.assertEqual(judge(Book(take_copied=("to", "from", "both")), copies="all"), ("right",))

    def test_two_directions_are_lacking(self):
        self.wrong("none", without("cleaned", "to", "both"), [("write", 0, 1), bind("both"), FETCH])
        self.wrong("none", without("cleaned", "to", "from"), [("write", 0, 1), bind("to"), FETCH])
        self.wrong("none", without("cleaned", "from", "both"), [("write", 0, 1), bind("both"), FETCH])
        self.wrong("none", without("dropped", "from", "both"), [bind("both"), ("load", 0), store(3), TAKE, READ])
        self.wrong("all", without("bind_copied", "from", "both"), [("write", 0, 1), bind("both"), FETCH])
        self.wrong("all", without("give_copied", "from", "to"), [bind("to"), TAKE, ("write", 0, 3), GIVE, FETCH])
        self.wrong("all", without("take_copied", "from", "both"), [bind("both"), store(2), TAKE, READ])

    def test_no_direction_at_all(self):
        nothing = Book(cleaned=(), dropped=(), bind_copied=(), give_copied=(), take_copied=())
        for copies in ("none", "all"):
            self.wrong(copies, nothing, [("write", 0, 1), bind("both"), FETCH])

    def test_several_duties_are_wrong(self):
        book = Book(bind_copied=("from", "both"), take_copied=("from",))
        self.wrong("all", book, [("write", 0, 1), bind("to"), FETCH])
        book = Book(give_copied=("from",), take_copied=("from",))
        self.wrong("all", book, [bind("both"), store(2), TAKE, READ])

    def test_only_the_duties_of_these_copies_count(self):
        dice = random.Random(18)
        for _ in range(60):
            book = some_book(dice)
            for copies, other in (("none", "all"), ("all", "none")):
                same = Book(**{duty: getattr(book, duty) for duty in DUTIES[copies]})
                self.assertEqual(judge(book, copies=copies), judge(same, copies=copies))
                different = Book(**{duty: getattr(book, duty) for duty in DUTIES[other]})
                self.assertEqual(judge(different, copies=copies), ("right",))

    def test_which_books_are_right(self):
        for copies, rights in (("none", [Book()]), ("all", [Book(), Book(take_copied=("to", "from", "both"))])):
            for values in itertools.product(TUPLES, repeat=len(DUTIES[copies])):
                book = Book(**dict(zip(DUTIES[copies], values)))
                self.assertEqual(judge(book, copies=copies)[0], "right" if book in rights else "wrong", book)


class WrongLists(unittest.TestCase):

    def check(self, book, copies, events):
        """The events are a fair list of the small world, and only the last answer is not that of plain memory."""
        machine = Machine(1, ["a"], Setting(copies=copies, cached=True, book=book))
        for index, event in enumerate(events):
            value = index + 1
            self.assertIn(event, [
                bind("to"), bind("from"), bind("both"), ("unbind", "m"), GIVE, TAKE, READ, ("read", 1), FETCH,
                ("write", 0, value), ("write", 1, value), store(value), ("load", 0), ("evict", 0), ("land", "a"),
            ])
            if event[0] == "store":
                self.assertEqual(machine.under_way("a"), 0)
            do(machine, event)
        self.assertIsNone(first_breach(events, pages=1, devices=["a"]))
        found, wanted = answers(events, book, copies), plain(events, pages=1, devices=["a"])
        self.assertEqual(found[:-1], wanted[:-1])
        self.assertNotEqual(found, wanted)

    def same(self, book, copies):
        """The result is that of the model."""
        with self.subTest(book=book, copies=copies):
            result = judge(book, copies=copies)
            events = first_wrong(book, copies)
            self.assertEqual(result, ("right",) if events is None else ("wrong", events))
            if events is not None:
                self.check(book, copies, result[1])

    def test_all_books_without_copies(self):
        for cleaned, dropped in itertools.product(TUPLES, repeat=2):
            self.same(Book(cleaned=cleaned, dropped=dropped), "none")

    def test_books_with_copies(self):
        dice = random.Random(19)
        for duty, value in itertools.product(DUTIES["all"], TUPLES):
            self.same(Book(**{duty: value}), "all")
        for _ in range(40):
            self.same(some_book(dice), "all")
        self.same(Book(give_copied=("to", "both"), take_copied=("to", "from", "both")), "all")

    def test_no_fair_list_before_it_is_wrong(self):
        # Here all fair lists are tried that are not longer.
        for copies, book in (("none", without("cleaned", "from")), ("none", Book(dropped=("to", "from", "both"))),
                             ("all", without("take_copied", "both")), ("all", without("bind_copied", "from"))):
            result = judge(book, copies=copies)
            self.assertEqual(result, ("wrong", first_wrong(book, copies, len(result[1]))))


class Unsafe(unittest.TestCase):

    def check(self, setting):
        events = unsafe(setting)
        with self.subTest(setting=setting, events=events):
            if setting.safe:
                self.assertIsNone(events)
                return
            self.assertIsInstance(events, list)
            self.assertEqual(len(play(events, setting=setting)), len(events))
            machine = Machine(4, ["a", "b"], setting)
            model = ModelMachine(4, ["a", "b"], setting)
            for event in events:
                do(machine, event)
                getattr(model, event[0])(*event[1:])
            self.assertNotEqual(machine.strays("a"), ([], []))
            self.assertNotEqual(model.strays("a"), ([], []))

    def test_safe(self):
        self.assertIsNone(unsafe(Setting()))
        for batch in range(9):
            self.assertIsNone(unsafe(Setting(batch=batch)))
        self.assertIsNone(unsafe(Setting(early=True)))
        dice = random.Random(20)
        for _ in range(60):
            self.assertIsNone(unsafe(safe_setting(dice, book=some_book(dice))))

    def test_by_drain(self):
        for copies, cached, batch in itertools.product(("none", "ends", "all"), (True, False), range(9)):
            self.check(Setting(copies=copies, cached=cached, batch=batch, drain=False))

    def test_by_early_with_a_batch(self):
        for copies, cached, batch in itertools.product(("none", "ends", "all"), (True, False), range(9)):
            self.check(Setting(copies=copies, cached=cached, batch=batch, early=True))

    def test_by_both(self):
        for copies, cached, batch in itertools.product(("none", "ends", "all"), (True, False), range(9)):
            self.check(Setting(copies=copies, cached=cached, batch=batch, early=True, drain=False))

    def test_small_spaces_and_few_tables(self):
        for policy, groups, tables in itertools.product(POLICIES, (1, 2, 32), (1, 2, 32)):
            for batch, early, drain in ((0, False, False), (8, False, False), (1, True, True), (8, True, True),
                                        (0, True, False), (1, True, False)):
                for copies in ("none", "ends", "all"):
                    self.check(Setting(copies=copies, batch=batch, early=early, drain=drain, policy=policy,
                                       groups=groups, tables=tables))

    def test_any_books(self):
        dice = random.Random(22)
        for _ in range(300):
            self.check(some_setting(dice, book=some_book(dice)))


class Calls(unittest.TestCase):

    def test_arguments(self):
        self.assertEqual(str(inspect.signature(judge)), "(book, *, copies)")
        self.assertEqual(str(inspect.signature(unsafe)), "(setting)")
        book = without("cleaned", "to")
        self.assertEqual(judge(copies="none", book=book), judge(book, copies="none"))
        self.assertEqual(unsafe(setting=Setting(drain=False)), unsafe(Setting(drain=False)))
        with self.assertRaises(TypeError):
            judge(book, "none")
        with self.assertRaises(TypeError):
            judge(book)

    def test_arguments_stay_as_they_are(self):
        book = without("take_copied", "from")
        setting = Setting(drain=False, book=book)
        kept = copy.deepcopy((book, setting))
        judge(book, copies="all")
        unsafe(setting)
        self.assertEqual((book, setting), kept)

    def test_the_lists_are_new(self):
        book = Book(dropped=())
        first, again = judge(book, copies="none"), judge(book, copies="none")
        first[1].clear()
        self.assertEqual(judge(book, copies="none"), again)
        self.assertNotEqual(first, again)
        for setting in (Setting(drain=False), Setting(early=True, batch=1)):
            events, again = unsafe(setting), unsafe(setting)
            events.clear()
            self.assertEqual(unsafe(setting), again)
            self.assertNotEqual(again, [])


if __name__ == "__main__":
    unittest.main()
