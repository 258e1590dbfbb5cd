"""What bind, give, take and unbind do with lines and copies, and the accesses of the processor: the point 8."""

import itertools
import unittest

from devicewindows.machine import Machine
from devicewindows.runs import Run
from devicewindows.settings import DIRECTIONS, Book, Setting
from tests.machines import TUPLES

NOTHING = Book(cleaned=(), dropped=(), bind_copied=(), give_copied=(), take_copied=())


def only(**told):
    """A book with no other duties."""
    made = {"cleaned": (), "dropped": (), "bind_copied": (), "give_copied": (), "take_copied": ()}
    made.update(told)
    return Book(**made)


def written(setting, pages=2):
    """A machine on which the processor has written 10, 11 .. to all words."""
    machine = Machine(pages, ["a", "b"], setting)
    for word in range(4 * pages):
        machine.write(word, 10 + word)
    return machine


def raw(machine, name):
    """What the device finds at the addresses of the mapping's run."""
    return [machine.fetch(row[0], word) for row in machine.owners() if row[0] == name
            for word in range(row[2], row[2] + row[3])]


class Processor(unittest.TestCase):

    def test_without_cache(self):
        machine = written(Setting())
        self.assertEqual(machine.memory(), [10, 11, 12, 13, 14, 15, 16, 17])
        self.assertEqual([machine.read(word) for word in range(8)], [10, 11, 12, 13, 14, 15, 16, 17])
        machine.load(1)
        machine.evict(1)
        self.assertEqual(machine.held, ())
        self.assertEqual(machine.memory(), [10, 11, 12, 13, 14, 15, 16, 17])

    def test_with_cache(self):
        machine = Machine(2, ["a"], Setting(cached=True))
        machine.write(5, 7)
        self.assertEqual((machine.held, machine.memory()), (((2, True),), [0] * 8))
        self.assertEqual([machine.read(word) for word in range(8)], [0, 0, 0, 0, 0, 7, 0, 0])
        self.assertEqual(machine.held, ((0, False), (1, False), (2, True), (3, False)))
        machine.evict(2)
        self.assertEqual((machine.held, machine.memory()[5]), (((0, False), (1, False), (3, False)), 7))
        machine.load(2)
        self.assertEqual(machine.held[2], (2, False))

    def test_load_keeps_old_values(self):
        machine = Machine(2, ["a"], Setting(cached=True))
        machine.load(0)
        machine.bind("m", "a", Run(0, 1), "from")
        machine.poke("a", 0, 9)
        machine.land("a")
        self.assertEqual((machine.read(0), machine.memory()[0]), (0, 9))
        machine.evict(0)
        self.assertEqual(machine.read(0), 9)

    def test_evict_of_a_dirty_line_writes_both_words(self):
        machine = Machine(2, ["a"], Setting(cached=True))
        machine.bind("m", "a", Run(0, 1), "from")
        machine.write(1, 5)
        machine.poke("a", 0, 9)
        machine.land("a")
        machine.evict(0)
        self.assertEqual(machine.memory()[:2], [0, 5])

    def test_values_of_twelve_digits(self):
        for cached in (True, False):
            machine = Machine(1, ["a"], Setting(cached=cached))
            for value in (999999999999, -999999999999, 0):
                machine.write(3, value)
                self.assertEqual(machine.read(3), value)

    def test_edges_of_memory(self):
        machine = Machine(16, ["a"], Setting(cached=True))
        machine.write(0, 1)
        machine.write(63, 2)
        self.assertEqual(machine.held, ((0, True), (31, True)))


class Cleaned(unittest.TestCase):

    def test_bind_cleans_the_lines_of_the_run(self):
        for direction in DIRECTIONS:
            machine = written(Setting(cached=True))
            machine.bind("m", "a", Run(3, 2), direction)
            self.assertEqual(machine.memory(), [0, 0, 12, 13, 14, 15, 0, 0])
            self.assertEqual(machine.held, ((0, True), (1, False), (2, False), (3, True)))

    def test_bind_only_for_the_directions_of_the_book(self):
        for direction, duty in itertools.product(DIRECTIONS, TUPLES):
            machine = written(Setting(cached=True, book=only(cleaned=duty)))
            machine.bind("m", "a", Run(0, 4), direction)
            cleaned = direction in duty
            self.assertEqual(machine.memory()[:4], [10, 11, 12, 13] if cleaned else [0] * 4)

    def test_give_cleans_the_lines_of_what_the_processor_owns(self):
        for direction, duty in itertools.product(DIRECTIONS, TUPLES):
            machine = Machine(2, ["a"], Setting(cached=True, book=only(cleaned=duty)))
            machine.bind("m", "a", Run(0, 8), direction)
            machine.take("m", Run(1, 4))
            for word in range(8):
                machine.write(word, 10 + word)
            machine.give("m", Run(2, 5))
            # The words 2 to 4 were the processor's, so the lines 1 and 2 are cleaned.
            expected = [0, 0, 12, 13, 14, 15, 0, 0] if direction in duty else [0] * 8
            self.assertEqual(machine.memory(), expected)
            self.assertEqual(machine.owners()[0][5], "dpdddddd")

    def test_cleaned_lines_stay_held(self):
        machine = written(Setting(cached=True))
        machine.bind("m", "a", Run(0, 2), "from")
        machine.poke("a", 0, 99)
        machine.land("a")
        self.assertEqual((machine.memory()[0], machine.read(0)), (99, 10))

    def test_take_cleans_nothing(self):
        machine = written(Setting(cached=True, book=only(cleaned=DIRECTIONS)))
        machine.bind("m", "a", Run(0, 4), "both")
        machine.write(0, 99)
        machine.take("m")
        self.assertEqual((machine.memory()[0], machine.read(0)), (10, 99))


class Dropped(unittest.TestCase):

    def test_take_drops_the_lines_of_what_the_device_owns(self):
        for direction, duty in itertools.product(DIRECTIONS, TUPLES):
            machine = written(Setting(cached=True, book=only(dropped=duty)))
            machine.bind("m", "a", Run(0, 8), direction)
            machine.take("m", Run(0, 2))
            dropped = direction in duty
            self.assertEqual(machine.held, tuple((line, True) for line in range(1 if dropped else 0, 4)))
            machine.write(0, 99)
            machine.take("m", Run(1, 3))
            # Only the words 2 and 3 were the device's still; a dropped line writes nothing.
            self.assertEqual([line for line, _ in machine.held], [0, 2, 3] if dropped else [0, 1, 2, 3])
            self.assertEqual(machine.memory(), [0] * 8)
            self.assertEqual(machine.owners()[0][5], "ppppdddd")

    def test_standard_book(self):
        for direction, value in [("to", 10), ("from", 99), ("both", 99)]:
            machine = written(Setting(cached=True))
            machine.bind("m", "a", Run(0, 4), direction)
            machine.load(0)
            machine.poke("a", 0, 99)
            machine.take("m")
            self.assertEqual(machine.read(0), value)

    def test_unbind_takes_the_whole_run(self):
        machine = written(Setting(cached=True))
        machine.bind("m", "a", Run(2, 4), "from")
        machine.take("m", Run(4, 1))
        machine.read(4)
        machine.unbind("m")
        # Line 2 was loaded again, and is dropped again for the word 5.
        self.assertEqual([line for line, _ in machine.held], [0, 3])
        machine = written(Setting(cached=True))
        machine.bind("m", "a", Run(4, 2), "from")
        machine.take("m")
        machine.write(4, 5)
        machine.unbind("m")
        self.assertEqual(machine.held[2], (2, True))


class Copied(unittest.TestCase):

    def test_which_pages(self):
        # A word that a device writes arrives in memory at once only if its page is direct.
        cases = [
            ("none", Run(3, 6), [0, 0, 0, 93, 94, 95, 96, 97, 98, 0, 0, 0]),
            ("all", Run(3, 6), [0] * 12),
            ("ends", Run(3, 6), [0, 0, 0, 0, 94, 95, 96, 97, 0, 0, 0, 0]),
            ("ends", Run(4, 4), [0, 0, 0, 0, 94, 95, 96, 97, 0, 0, 0, 0]),
            ("ends", Run(0, 12), [90, 91, 92, 93, 94, 95, 96, 97, 98, 99, 100, 101]),
            ("ends", Run(0, 11), [90, 91, 92, 93, 94, 95, 96, 97, 0, 0, 0, 0]),
            ("ends", Run(1, 11), [0, 0, 0, 0, 94, 95, 96, 97, 98, 99, 100, 101]),
            ("ends", Run(5, 2), [0] * 12),
            ("all", Run(4, 4), [0] * 12),
        ]
        for copies, run, expected in cases:
            with self.subTest(copies=copies, run=run):
                machine = Machine(3, ["a"], Setting(copies=copies))
                machine.bind("m", "a", run, "both")
                for word in run.words():
                    machine.store("m", word, 90 + word)
                    machine.land("a")
                self.assertEqual(machine.memory(), expected)
                machine.take("m")
                everything = [90 + word if word in run else 0 for word in range(12)]
                self.assertEqual(machine.memory(), everything)

    def test_bind_fills_the_words_of_the_run(self):
        for direction, duty, cached in itertools.product(("to", "both"), TUPLES, (True, False)):
            machine = written(Setting(copies="all", cached=cached, book=only(bind_copied=duty)), pages=3)
            machine.bind("m", "a", Run(2, 8), direction)
            filled = direction in duty
            self.assertEqual(raw(machine, "m"), list(range(12, 20)) if filled else [0] * 8)
            # All other words of the copies are 0.
            self.assertEqual([machine.peek("a", address) for address in (0, 1, 10, 11)], [0] * 4)

    def test_bind_from_fills_too(self):
        for duty in TUPLES:
            machine = written(Setting(copies="all", book=only(bind_copied=duty, take_copied=("from",))))
            machine.bind("m", "a", Run(1, 2), "from")
            machine.take("m", Run(2, 1))
            self.assertEqual(machine.memory()[:4], [10, 11, 12 if "from" in duty else 0, 13])

    def test_bind_loads_lines_and_cleans_none(self):
        machine = Machine(2, ["a"], Setting(copies="all", cached=True))
        machine.write(0, 5)
        machine.bind("m", "a", Run(0, 3), "both")
        self.assertEqual((machine.held, machine.memory()), (((0, True), (1, False)), [0] * 8))
        self.assertEqual(machine.fetch("m", 0), 5)

    def test_bind_loads_nothing_for_other_directions(self):
        machine = Machine(2, ["a"], Setting(copies="all", cached=True, book=NOTHING))
        machine.bind("m", "a", Run(0, 3), "both")
        machine.take("m")
        machine.give("m")
        self.assertEqual(machine.held, ())

    def test_copies_of_two_mappings_are_their_own(self):
        machine = written(Setting(copies="all"))
        machine.bind("m", "a", Run(0, 4), "both")
        machine.bind("n", "a", Run(0, 4), "both")
        machine.store("m", 0, 99)
        self.assertEqual((machine.fetch("m", 0), machine.fetch("n", 0), machine.memory()[0]), (99, 10, 10))

    def test_give_fills_what_the_processor_owns(self):
        for direction, duty, cached in itertools.product(("to", "both"), TUPLES, (True, False)):
            book = only(give_copied=duty)
            machine = Machine(2, ["a"], Setting(copies="all", cached=cached, book=book))
            machine.bind("m", "a", Run(0, 8), direction)
            machine.take("m", Run(1, 4))
            for word in range(8):
                machine.write(word, 10 + word)
            machine.give("m", Run(2, 5))
            expected = [0, 0, 12, 13, 14, 0, 0, 0] if direction in duty else [0] * 8
            self.assertEqual(raw(machine, "m"), expected)
            self.assertEqual(machine.owners()[0][5], "dpdddddd")

    def test_give_reads_through_the_cache(self):
        machine = Machine(1, ["a"], Setting(copies="all", cached=True))
        machine.bind("m", "a", Run(0, 1), "to")
        machine.take("m")
        machine.evict(0)
        machine.give("m")
        self.assertEqual(machine.held, ((0, False),))
        machine.take("m")
        machine.write(0, 5)
        machine.give("m")
        self.assertEqual((machine.fetch("m", 0), machine.memory()[0]), (5, 0))

    def test_take_writes_to_memory(self):
        for direction, duty, cached in itertools.product(("from", "both"), TUPLES, (True, False)):
            machine = Machine(2, ["a"], Setting(copies="all", cached=cached, book=only(take_copied=duty)))
            machine.bind("m", "a", Run(1, 5), direction)
            for word in range(1, 6):
                machine.store("m", word, 90 + word)
            machine.take("m", Run(2, 2))
            taken = direction in duty
            self.assertEqual(machine.memory(), [0, 0, 92, 93, 0, 0, 0, 0] if taken else [0] * 8)
            self.assertEqual(machine.owners()[0][5], "dppdd")

    def test_take_to_writes_back_only_by_the_book(self):
        for duty in TUPLES:
            machine = written(Setting(copies="all", book=only(bind_copied=("to",), take_copied=duty)))
            machine.bind("m", "a", Run(1, 2), "to")
            machine.write(1, 99)
            machine.take("m", Run(1, 1))
            self.assertEqual(machine.memory()[1], 11 if "to" in duty else 99)

    def test_take_evicts_the_line(self):
        machine = Machine(1, ["a"], Setting(copies="all", cached=True))
        machine.bind("m", "a", Run(0, 1), "from")
        machine.write(1, 5)
        machine.store("m", 0, 9)
        machine.take("m")
        # The dirty line was cleaned first, then the copy's word was written over it.
        self.assertEqual((machine.memory()[:2], machine.held), ([9, 5], ()))
        self.assertEqual((machine.read(0), machine.read(1)), (9, 5))

    def test_take_of_what_the_processor_owns_does_nothing(self):
        machine = Machine(1, ["a"], Setting(copies="all", cached=True))
        machine.bind("m", "a", Run(0, 2), "from")
        machine.take("m", Run(0, 1))
        machine.write(0, 5)
        machine.take("m", Run(0, 1))
        self.assertEqual(machine.held, ((0, True),))
        machine.unbind("m")
        # Word 1 is the device's still, and has the line evicted.
        self.assertEqual((machine.held, machine.memory()), ((), [5, 0, 0, 0]))

    def test_give_of_what_the_device_owns_does_nothing(self):
        for copies in ("none", "all"):
            machine = Machine(1, ["a"], Setting(copies=copies, cached=True))
            machine.bind("m", "a", Run(0, 2), "to")
            machine.write(0, 5)
            machine.give("m")
            self.assertEqual((machine.held[0], machine.fetch("m", 0)), ((0, True), 0))


class Parts(unittest.TestCase):

    def marks(self, machine):
        return machine.owners()[0][5]

    def test_parts(self):
        machine = Machine(4, ["a"])
        machine.bind("m", "a", Run(2, 6), "both")
        self.assertEqual(self.marks(machine), "dddddd")
        machine.take("m", Run(3, 2))
        self.assertEqual(self.marks(machine), "dppddd")
        machine.take("m", Run(7, 1))
        machine.take("m", Run(2, 2))
        self.assertEqual(self.marks(machine), "pppddp")
        machine.give("m", Run(2, 6))
        self.assertEqual(self.marks(machine), "dddddd")
        machine.take("m", None)
        self.assertEqual(self.marks(machine), "pppppp")
        machine.give("m", Run(4, 3))
        self.assertEqual(self.marks(machine), "ppdddp")
        machine.give("m")
        self.assertEqual(self.marks(machine), "dddddd")
        machine.take("m")
        self.assertEqual(self.marks(machine), "pppppp")

    def test_runs_of_1_and_16_words(self):
        for first, many in [(0, 1), (63, 1), (0, 16), (48, 16), (7, 16), (3, 1)]:
            for copies in ("none", "ends", "all"):
                machine = written(Setting(copies=copies), pages=16)
                run = Run(first, many)
                machine.bind("m", "a", run, "both")
                for word in run.words():
                    self.assertEqual(machine.fetch("m", word), 10 + word)
                    machine.store("m", word, 500 + word)
                machine.unbind("m")
                self.assertEqual(machine.memory(), [500 + word if word in run else 10 + word for word in range(64)])


class Drained(unittest.TestCase):

    def test_take_lands_all_writes_of_the_device(self):
        for drain in (True, False):
            machine = Machine(2, ["a", "b"], Setting(drain=drain))
            machine.bind("m", "a", Run(0, 4), "both")
            machine.bind("n", "a", Run(4, 2), "both")
            machine.bind("o", "b", Run(6, 2), "both")
            machine.store("m", 1, 5)
            machine.store("n", 4, 6)
            machine.store("m", 1, 7)
            machine.store("o", 6, 8)
            machine.take("m", Run(0, 1))
            self.assertEqual(machine.memory(), [0, 7, 0, 0, 6, 0, 0, 0] if drain else [0] * 8)
            self.assertEqual((machine.under_way("a"), machine.under_way("b")), (0, 1) if drain else (3, 1))

    def test_take_lands_writes_even_if_the_processor_owns_all(self):
        machine = Machine(2, ["a"])
        machine.bind("m", "a", Run(0, 1), "both")
        machine.take("m")
        machine.store("m", 0, 5)
        self.assertEqual(machine.under_way("a"), 1)
        machine.take("m")
        self.assertEqual((machine.under_way("a"), machine.memory()[0]), (0, 5))

    def test_give_and_bind_land_nothing(self):
        machine = Machine(2, ["a"])
        machine.bind("m", "a", Run(0, 1), "both")
        machine.store("m", 0, 5)
        machine.give("m")
        machine.bind("n", "a", Run(0, 1), "both")
        self.assertEqual(machine.under_way("a"), 1)

    def test_writes_land_before_copies_are_taken(self):
        for drain, value in [(True, 5), (False, 0)]:
            machine = Machine(1, ["a"], Setting(copies="all", drain=drain))
            machine.bind("m", "a", Run(0, 1), "both")
            machine.store("m", 0, 5)
            machine.take("m")
            self.assertEqual(machine.memory()[0], value)

    def test_writes_land_before_lines_are_dropped(self):
        machine = Machine(1, ["a"], Setting(cached=True))
        machine.bind("m", "a", Run(0, 1), "both")
        machine.store("m", 0, 5)
        machine.take("m")
        self.assertEqual(machine.read(0), 5)

    def test_flush_lands_device_by_device(self):
        for devices, value in [(["a", "b", "c"], 8), (["c", "b", "a"], 5), (["b", "c", "a"], 5), (["c", "a", "b"], 7)]:
            machine = Machine(1, devices)
            for name, device in [("k", "a"), ("l", "b"), ("m", "c")]:
                machine.bind(name, device, Run(0, 1), "both")
            machine.store("m", 0, 8)
            machine.store("l", 0, 7)
            machine.store("k", 0, 4)
            machine.store("k", 0, 5)
            machine.flush()
            self.assertEqual(machine.memory()[0], value)
            self.assertEqual([machine.under_way(device) for device in devices], [0, 0, 0])

    def test_flush_without_drain_lands_nothing(self):
        machine = Machine(1, ["a"], Setting(drain=False))
        machine.bind("m", "a", Run(0, 1), "both")
        machine.store("m", 0, 5)
        machine.unbind("m")
        machine.flush()
        self.assertEqual((machine.under_way("a"), machine.memory()[0]), (1, 0))
        machine.land("a")
        self.assertEqual(machine.memory()[0], 5)


if __name__ == "__main__":
    unittest.main()
