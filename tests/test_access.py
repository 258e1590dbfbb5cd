"""What devices reach, what they keep, and how their writes land: the point 9."""

import unittest

from devicewindows.machine import Machine
from devicewindows.runs import Run
from devicewindows.settings import Setting

KEEPING = Setting(batch=8)


def written(setting=None, pages=4, devices=("a", "b")):
    """A machine with the values 10, 11 .. in its words."""
    machine = Machine(pages, devices, setting)
    for word in range(4 * pages):
        machine.write(word, 10 + word)
    return machine


class Accesses(unittest.TestCase):

    def test_directions(self):
        for copies in ("none", "ends", "all"):
            for direction, reads, writes in [("to", True, False), ("from", False, True), ("both", True, True)]:
                machine = written(Setting(copies=copies))
                machine.bind("m", "a", Run(0, 2), direction)
                self.assertEqual(machine.peek("a", 1), 11 if reads else None)
                self.assertEqual(machine.fetch("m", 1), 11 if reads else None)
                self.assertIs(machine.poke("a", 1, 5), writes)
                self.assertIs(machine.store("m", 1, 6), writes)
                self.assertEqual(machine.under_way("a"), 2 if writes else 0)

    def test_all_words_of_a_direct_page(self):
        machine = written()
        machine.bind("m", "a", Run(5, 1), "both")
        self.assertEqual([machine.peek("a", address) for address in range(5)], [14, 15, 16, 17, None])
        self.assertIs(machine.poke("a", 3, 9), True)
        machine.land("a")
        self.assertEqual(machine.memory()[7], 9)

    def test_memory_and_not_the_cache(self):
        machine = Machine(1, ["a"], Setting(cached=True))
        machine.bind("m", "a", Run(0, 4), "both")
        machine.write(2, 5)
        self.assertEqual(machine.fetch("m", 2), 0)
        machine.store("m", 2, 6)
        machine.land("a")
        self.assertEqual((machine.read(2), machine.memory()[2]), (5, 6))

    def test_other_words_of_a_copy(self):
        machine = written(Setting(copies="all"))
        machine.bind("m", "a", Run(1, 2), "both")
        self.assertEqual([machine.peek("a", address) for address in range(4)], [0, 11, 12, 0])
        self.assertIs(machine.poke("a", 0, 9), True)
        self.assertEqual(machine.peek("a", 0), 9)
        machine.take("m")
        self.assertEqual(machine.memory()[:4], [10, 11, 12, 13])

    def test_no_device_reaches_the_space_of_another(self):
        machine = written()
        machine.bind("m", "a", Run(0, 4), "both")
        self.assertIsNone(machine.peek("b", 0))
        self.assertIs(machine.poke("b", 0, 5), False)

    def test_who_owns_the_word_does_not_matter(self):
        machine = written()
        machine.bind("m", "a", Run(0, 4), "both")
        machine.take("m")
        self.assertEqual(machine.fetch("m", 1), 11)
        self.assertIs(machine.store("m", 1, 5), True)


class Faults(unittest.TestCase):

    def test_address_that_is_not_in_the_space(self):
        for groups in (1, 2, 32):
            machine = Machine(1, ["a"], Setting(groups=groups))
            for address in (16 * groups, 16 * groups + 1, 10 ** 39):
                self.assertIsNone(machine.peek("a", address))
                self.assertIs(machine.poke("a", address, 5), False)

    def test_last_address_of_the_space(self):
        machine = written(Setting(groups=1, policy="next"))
        machine.bind("m", "a", Run(0, 12), "both")
        machine.bind("n", "a", Run(12, 4), "both")
        self.assertEqual((machine.peek("a", 15), machine.peek("a", 16)), (25, None))

    def test_no_table(self):
        machine = written()
        self.assertIsNone(machine.peek("a", 0))
        self.assertIs(machine.poke("a", 0, 5), False)

    def test_empty_entry(self):
        machine = written()
        machine.bind("m", "a", Run(0, 4), "both")
        self.assertIsNone(machine.peek("a", 4))
        self.assertIs(machine.poke("a", 15, 5), False)

    def test_no_table_is_not_kept(self):
        machine = written(KEEPING)
        self.assertIsNone(machine.peek("a", 0))
        machine.bind("m", "a", Run(0, 4), "both")
        self.assertEqual(machine.peek("a", 0), 10)

    def test_empty_entry_is_not_kept(self):
        machine = written(KEEPING)
        machine.bind("m", "a", Run(0, 4), "both")
        self.assertIsNone(machine.peek("a", 4))
        machine.bind("n", "a", Run(4, 4), "both")
        self.assertEqual(machine.peek("a", 4), 14)

    def test_what_was_kept_on_the_way_to_a_fault_stays_kept(self):
        # The direction forbids the access, but the entry is kept.
        machine = written(KEEPING)
        machine.bind("m", "a", Run(0, 4), "from")
        self.assertIsNone(machine.peek("a", 0))
        machine.unbind("m")
        self.assertIs(machine.poke("a", 0, 5), True)

    def test_table_kept_on_the_way_to_an_empty_entry(self):
        machine = written(Setting(batch=8, early=True, tables=1, groups=1))
        machine.bind("m", "a", Run(0, 4), "both")
        self.assertIsNone(machine.peek("a", 4))
        machine.unbind("m")
        # The table is b's now, but a has kept it.
        machine.bind("n", "b", Run(4, 8), "to")
        self.assertEqual([machine.peek("a", address) for address in (0, 4, 8)], [14, 18, None])


class Kept(unittest.TestCase):

    def test_entry_until_the_flush(self):
        machine = written(KEEPING)
        machine.bind("m", "a", Run(0, 4), "both")
        self.assertEqual(machine.fetch("m", 0), 10)
        machine.unbind("m")
        machine.write(1, 99)
        self.assertEqual(machine.peek("a", 1), 99)
        machine.flush()
        self.assertIsNone(machine.peek("a", 1))

    def test_entry_of_each_page_is_kept_by_itself(self):
        machine = written(KEEPING)
        machine.bind("m", "a", Run(0, 8), "both")
        self.assertEqual(machine.fetch("m", 0), 10)
        machine.unbind("m")
        self.assertEqual((machine.peek("a", 0), machine.peek("a", 4)), (10, None))

    def test_nothing_is_kept_without_an_access(self):
        machine = written(KEEPING)
        machine.bind("m", "a", Run(0, 4), "both")
        machine.unbind("m")
        self.assertIsNone(machine.peek("a", 0))

    def test_kept_by_a_poke(self):
        machine = written(KEEPING)
        machine.bind("m", "a", Run(0, 4), "both")
        self.assertIs(machine.poke("a", 0, 5), True)
        machine.unbind("m")
        self.assertEqual(machine.peek("a", 1), 11)

    def test_each_device_keeps_its_own(self):
        machine = written(KEEPING)
        machine.bind("m", "a", Run(0, 4), "both")
        machine.bind("n", "b", Run(0, 4), "both")
        machine.fetch("m", 0)
        machine.unbind("m")
        machine.unbind("n")
        self.assertEqual((machine.peek("a", 0), machine.peek("b", 0)), (10, None))

    def test_flush_forgets_what_all_devices_kept(self):
        machine = written(Setting(batch=8, early=True, tables=2, groups=1))
        machine.bind("m", "a", Run(0, 4), "both")
        machine.bind("n", "b", Run(0, 4), "both")
        machine.fetch("m", 0)
        machine.fetch("n", 0)
        machine.unbind("m")
        machine.unbind("n")
        self.assertEqual((machine.peek("a", 0), machine.peek("b", 0)), (10, 10))
        machine.flush()
        self.assertEqual((machine.peek("a", 0), machine.peek("b", 0)), (None, None))

    def test_kept_entry_goes_before_a_new_table(self):
        machine = written(Setting(batch=8, early=True, drain=False))
        machine.bind("m", "a", Run(0, 4), "both")
        machine.fetch("m", 0)
        machine.unbind("m")
        machine.bind("n", "a", Run(4, 4), "both")
        self.assertEqual(machine.address("n", 4), 4)
        self.assertEqual((machine.peek("a", 0), machine.fetch("n", 4)), (10, 14))

    def test_kept_copy_of_a_mapping_that_is_gone(self):
        machine = written(Setting(batch=8, copies="all"))
        machine.bind("m", "a", Run(0, 4), "both")
        machine.fetch("m", 0)
        machine.unbind("m")
        machine.write(0, 99)
        self.assertIs(machine.poke("a", 1, 5), True)
        self.assertEqual((machine.peek("a", 0), machine.peek("a", 1), machine.read(1)), (10, 5, 11))

    def test_kept_table_of_another_group(self):
        machine = written(Setting(batch=8, early=True, tables=1, groups=2, policy="next"))
        machine.bind("m", "a", Run(0, 16), "both")
        machine.fetch("m", 0)
        machine.unbind("m")
        machine.bind("n", "a", Run(12, 4), "from")
        self.assertEqual(machine.address("n", 12), 16)
        # Table 0 is that of group 1 now; entry 0 of group 0 is kept still, and its other pages find empty entries.
        self.assertEqual([machine.peek("a", address) for address in (0, 4)], [10, None])
        self.assertIs(machine.store("n", 12, 5), True)

    def test_kept_table_that_is_free(self):
        machine = written(Setting(batch=8, early=True))
        machine.bind("m", "a", Run(0, 8), "both")
        machine.fetch("m", 0)
        machine.unbind("m")
        self.assertEqual((machine.peek("a", 0), machine.peek("a", 4)), (10, None))

    def test_kept_table_goes_before_the_one_that_the_group_has(self):
        machine = written(Setting(batch=8, early=True, tables=3, groups=1))
        machine.bind("m", "a", Run(0, 4), "both")
        self.assertEqual(machine.fetch("m", 0), 10)
        machine.unbind("m")
        machine.bind("n", "b", Run(4, 8), "both")
        machine.bind("o", "a", Run(12, 4), "both")
        # b has table 0, which a has kept; a's group has table 1, and o's page is 1.
        self.assertEqual(machine.address("o", 12), 4)
        self.assertEqual(machine.fetch("o", 12), 18)

    def test_entry_that_is_kept_needs_no_table(self):
        machine = written(Setting(batch=8, early=True, tables=2, groups=1))
        machine.bind("m", "a", Run(0, 4), "both")
        machine.fetch("m", 0)
        machine.unbind("m")
        machine.bind("n", "b", Run(4, 8), "both")
        self.assertEqual(machine.peek("a", 0), 10)


class UnderWay(unittest.TestCase):

    def test_land_one_after_the_other(self):
        machine = Machine(1, ["a", "b"])
        machine.bind("m", "a", Run(0, 4), "both")
        machine.bind("n", "b", Run(0, 4), "both")
        for word, value in [(0, 5), (0, 6), (1, 7)]:
            machine.store("m", word, value)
        machine.store("n", 3, 8)
        self.assertEqual((machine.under_way("a"), machine.under_way("b"), machine.memory()), (3, 1, [0] * 4))
        for memory in ([5, 0, 0, 0], [6, 0, 0, 0], [6, 7, 0, 0], [6, 7, 0, 0]):
            machine.land("a")
            self.assertEqual(machine.memory(), memory)
        self.assertEqual((machine.under_way("a"), machine.under_way("b")), (0, 1))
        machine.land("b")
        self.assertEqual(machine.memory(), [6, 7, 0, 8])

    def test_peek_lands_all_writes_of_this_device(self):
        machine = Machine(1, ["a", "b"])
        machine.bind("m", "a", Run(0, 4), "both")
        machine.bind("n", "b", Run(0, 4), "both")
        machine.store("m", 0, 5)
        machine.store("m", 1, 6)
        machine.store("n", 2, 7)
        self.assertEqual(machine.peek("a", 1), 6)
        self.assertEqual((machine.memory(), machine.under_way("a"), machine.under_way("b")), ([5, 6, 0, 0], 0, 1))

    def test_peek_lands_writes_also_if_it_is_a_fault(self):
        for address in (4, 16, 512, 10 ** 39):
            machine = Machine(1, ["a"])
            machine.bind("m", "a", Run(0, 4), "both")
            machine.store("m", 0, 5)
            self.assertIsNone(machine.peek("a", address))
            self.assertEqual((machine.memory()[0], machine.under_way("a")), (5, 0))

    def test_fetch_that_the_direction_forbids_lands_writes(self):
        machine = Machine(1, ["a"])
        machine.bind("m", "a", Run(0, 4), "from")
        machine.store("m", 0, 5)
        self.assertIsNone(machine.fetch("m", 0))
        self.assertEqual(machine.memory()[0], 5)

    def test_poke_lands_nothing(self):
        machine = Machine(1, ["a"])
        machine.bind("m", "a", Run(0, 4), "both")
        machine.store("m", 0, 5)
        machine.poke("a", 10 ** 6, 6)
        machine.store("m", 1, 6)
        self.assertEqual((machine.under_way("a"), machine.memory()), (2, [0] * 4))

    def test_translated_at_once(self):
        # The write lands in the word that was found, though the mapping is gone and its address is another's.
        machine = Machine(2, ["a"], Setting(drain=False))
        machine.bind("m", "a", Run(0, 4), "both")
        machine.store("m", 0, 5)
        machine.unbind("m")
        machine.bind("n", "a", Run(4, 4), "both")
        self.assertEqual(machine.address("n", 4), 0)
        machine.land("a")
        self.assertEqual(machine.memory(), [5, 0, 0, 0, 0, 0, 0, 0])

    def test_lands_in_a_copy(self):
        machine = Machine(1, ["a"], Setting(copies="all"))
        machine.bind("m", "a", Run(0, 4), "both")
        machine.store("m", 2, 5)
        machine.land("a")
        self.assertEqual((machine.memory()[2], machine.under_way("a")), (0, 0))
        machine.take("m", Run(2, 1))
        self.assertEqual(machine.memory()[2], 5)

    def test_lands_in_a_copy_that_is_gone(self):
        machine = Machine(1, ["a"], Setting(copies="all", drain=False))
        machine.bind("m", "a", Run(0, 4), "both")
        machine.store("m", 2, 5)
        machine.unbind("m")
        machine.land("a")
        self.assertEqual((machine.memory(), machine.under_way("a")), ([0] * 4, 0))

    def test_processor_and_other_devices_see_it_later(self):
        machine = Machine(1, ["a", "b"])
        machine.bind("m", "a", Run(0, 4), "both")
        machine.bind("n", "b", Run(0, 4), "both")
        machine.store("m", 0, 5)
        self.assertEqual((machine.read(0), machine.fetch("n", 0)), (0, 0))
        machine.land("a")
        self.assertEqual((machine.read(0), machine.fetch("n", 0)), (5, 5))


if __name__ == "__main__":
    unittest.main()
