"""Sight and stray words: the point 15, as far as it speaks of machines."""

import unittest

from devicewindows.machine import Machine
from devicewindows.runs import Run
from devicewindows.settings import Setting

UNSAFE = Setting(batch=8, early=True)


def span(first, end):
    return list(range(first, end))


class Sight(unittest.TestCase):

    def test_nothing(self):
        machine = Machine(4, ["a", "b"])
        self.assertEqual(machine.sight("a"), ([], []))
        self.assertEqual(machine.strays("a"), ([], []))
        self.assertIsInstance(machine.sight("a"), tuple)
        self.assertIsInstance(machine.strays("a"), tuple)

    def test_directions(self):
        for direction, reading, writing in [("to", 4, 0), ("from", 0, 4), ("both", 4, 4)]:
            machine = Machine(1, ["a", "b"])
            machine.bind("m", "a", Run(0, 1), direction)
            self.assertEqual(machine.sight("a"), (span(0, reading), span(0, writing)))
            self.assertEqual(machine.sight("b"), ([], []))

    def test_all_words_of_direct_pages(self):
        machine = Machine(4, ["a"])
        machine.bind("m", "a", Run(7, 2), "to")
        self.assertEqual(machine.sight("a"), (span(4, 12), []))

    def test_only_words_of_the_run_in_copied_pages(self):
        machine = Machine(4, ["a"], Setting(copies="all"))
        machine.bind("m", "a", Run(7, 2), "both")
        self.assertEqual(machine.sight("a"), ([7, 8], [7, 8]))
        machine = Machine(4, ["a"], Setting(copies="ends"))
        machine.bind("m", "a", Run(3, 6), "to")
        self.assertEqual(machine.sight("a"), (span(3, 9), []))
        machine.bind("n", "a", Run(4, 5), "from")
        self.assertEqual(machine.sight("a"), (span(3, 9), span(4, 9)))

    def test_ascending_and_each_word_once(self):
        machine = Machine(4, ["a"])
        machine.bind("m", "a", Run(8, 4), "both")
        machine.bind("n", "a", Run(0, 4), "to")
        machine.bind("o", "a", Run(0, 12), "from")
        self.assertEqual(machine.sight("a"), (span(0, 4) + span(8, 12), span(0, 12)))

    def test_who_owns_the_words_does_not_matter(self):
        machine = Machine(1, ["a"])
        machine.bind("m", "a", Run(0, 4), "both")
        machine.take("m")
        self.assertEqual(machine.sight("a"), (span(0, 4), span(0, 4)))

    def test_what_was_kept_counts(self):
        machine = Machine(4, ["a"], Setting(batch=8))
        machine.bind("m", "a", Run(0, 8), "both")
        machine.fetch("m", 0)
        machine.unbind("m")
        self.assertEqual(machine.sight("a"), (span(0, 4), span(0, 4)))
        machine.flush()
        self.assertEqual(machine.sight("a"), ([], []))

    def test_kept_tables_count(self):
        machine = Machine(4, ["a", "b"], Setting(batch=8, early=True, tables=1, groups=1))
        machine.bind("m", "a", Run(0, 4), "both")
        machine.peek("a", 4)
        machine.unbind("m")
        self.assertEqual(machine.sight("a"), ([], []))
        machine.bind("n", "b", Run(4, 8), "to")
        self.assertEqual(machine.sight("a"), (span(4, 12), []))
        self.assertEqual(machine.strays("a"), (span(4, 12), []))
        self.assertEqual(machine.strays("b"), ([], []))

    def test_asking_keeps_nothing(self):
        machine = Machine(4, ["a"], Setting(batch=8))
        machine.bind("m", "a", Run(0, 8), "both")
        for _ in range(2):
            self.assertEqual(machine.sight("a"), (span(0, 8), span(0, 8)))
            self.assertEqual(machine.strays("a"), ([], []))
        machine.unbind("m")
        self.assertEqual(machine.sight("a"), ([], []))
        self.assertIsNone(machine.peek("a", 0))

    def test_asking_lands_nothing(self):
        machine = Machine(4, ["a"])
        machine.bind("m", "a", Run(0, 8), "both")
        machine.store("m", 0, 5)
        machine.sight("a")
        machine.strays("a")
        self.assertEqual(machine.under_way("a"), 1)

    def test_copies_of_mappings_that_are_gone(self):
        machine = Machine(4, ["a"], Setting(batch=8, copies="all"))
        machine.bind("m", "a", Run(2, 4), "both")
        machine.fetch("m", 5)
        machine.unbind("m")
        self.assertEqual(machine.sight("a"), ([4, 5], [4, 5]))
        self.assertEqual(machine.strays("a"), ([], []))

    def test_writes_under_way(self):
        machine = Machine(4, ["a", "b"], Setting(drain=False))
        machine.bind("m", "a", Run(4, 2), "both")
        machine.store("m", 5, 7)
        machine.poke("a", 3, 8)
        machine.unbind("m")
        # The flush has happened, but the two writes will land still.
        self.assertEqual(machine.sight("a"), ([], [5, 7]))
        self.assertEqual(machine.sight("b"), ([], []))
        machine.land("a")
        self.assertEqual(machine.sight("a"), ([], [7]))
        machine.land("a")
        self.assertEqual(machine.sight("a"), ([], []))

    def test_writes_under_way_to_copies(self):
        machine = Machine(4, ["a"], Setting(drain=False, copies="all"))
        machine.bind("m", "a", Run(4, 2), "both")
        machine.store("m", 5, 7)
        machine.poke("a", 3, 8)
        machine.unbind("m")
        # The second word of the copy stands for no word of the run.
        self.assertEqual(machine.sight("a"), ([], [5]))
        self.assertEqual(machine.strays("a"), ([], [5]))


class Strays(unittest.TestCase):

    def test_bound_mappings(self):
        machine = Machine(4, ["a"])
        machine.bind("m", "a", Run(5, 1), "both")
        self.assertEqual(machine.strays("a"), ([], []))

    def test_waiting_runs(self):
        machine = Machine(4, ["a"], Setting(batch=8))
        machine.bind("m", "a", Run(5, 6), "both")
        machine.fetch("m", 5)
        machine.fetch("m", 10)
        machine.unbind("m")
        self.assertEqual(machine.sight("a"), (span(4, 12), span(4, 12)))
        self.assertEqual(machine.strays("a"), ([], []))

    def test_writes_under_way_without_a_mapping(self):
        machine = Machine(4, ["a"], Setting(drain=False))
        machine.bind("m", "a", Run(4, 4), "from")
        machine.store("m", 6, 7)
        self.assertEqual(machine.strays("a"), ([], []))
        machine.unbind("m")
        self.assertEqual(machine.strays("a"), ([], [6]))

    def test_a_mapping_of_another_direction_does_not_help(self):
        for direction, writing in [("to", [6]), ("from", []), ("both", [])]:
            machine = Machine(4, ["a"], Setting(drain=False))
            machine.bind("m", "a", Run(4, 4), "both")
            machine.store("m", 6, 7)
            machine.unbind("m")
            machine.bind("n", "a", Run(7, 1), direction)
            self.assertEqual(machine.strays("a"), ([], writing))

    def test_a_mapping_of_another_device_does_not_help(self):
        machine = Machine(4, ["a", "b"], Setting(drain=False))
        machine.bind("m", "a", Run(4, 4), "both")
        machine.store("m", 6, 7)
        machine.unbind("m")
        machine.bind("n", "b", Run(4, 4), "both")
        self.assertEqual(machine.strays("a"), ([], [6]))

    def test_a_mapping_of_another_page_does_not_help(self):
        machine = Machine(4, ["a"], Setting(drain=False))
        machine.bind("m", "a", Run(4, 8), "both")
        machine.store("m", 4, 7)
        machine.store("m", 11, 7)
        machine.unbind("m")
        machine.bind("n", "a", Run(8, 1), "both")
        self.assertEqual(machine.strays("a"), ([], [4]))

    def test_early_tables_lead_astray(self):
        machine = Machine(4, ["a", "b"], UNSAFE)
        machine.bind("m", "a", Run(0, 4), "both")
        machine.fetch("m", 0)
        machine.unbind("m")
        machine.bind("n", "b", Run(8, 8), "from")
        # Through the table that a has kept it reaches the second page of b's mapping.
        self.assertEqual(machine.sight("a"), (span(0, 4), span(0, 4) + span(12, 16)))
        self.assertEqual(machine.strays("a"), ([], span(12, 16)))

    def test_words_of_reading_and_of_writing_are_told_apart(self):
        machine = Machine(4, ["a", "b"], UNSAFE)
        machine.bind("m", "a", Run(0, 4), "to")
        machine.fetch("m", 0)
        machine.unbind("m")
        machine.bind("n", "b", Run(0, 8), "both")
        self.assertEqual(machine.sight("a"), (span(0, 8), span(4, 8)))
        self.assertEqual(machine.strays("a"), (span(4, 8), span(4, 8)))
        machine.bind("o", "a", Run(4, 1), "to")
        self.assertEqual(machine.strays("a"), ([], span(4, 8)))


if __name__ == "__main__":
    unittest.main()
