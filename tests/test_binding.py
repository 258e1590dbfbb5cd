"""Mappings, their pages and tables, and what waits: the points 7 and 8."""

import unittest

from devicewindows.errors import Full, NoRoom, NoTable
from devicewindows.machine import Machine
from devicewindows.runs import Run
from devicewindows.settings import Book, Setting
from tests.machines import state


class New(unittest.TestCase):

    def test_memory_is_0(self):
        for pages in (1, 2, 16):
            machine = Machine(pages, ["a"])
            self.assertEqual(machine.memory(), [0] * (4 * pages))

    def test_nothing_is_bound(self):
        for devices in (["a"], ("b", "a"), ["x", "y", "z"]):
            machine = Machine(2, devices)
            self.assertEqual(state(machine, devices), {
                "memory": [0] * 8, "held": (), "owners": (), "waiting": [],
                "holes": [[Run(0, 64)] for _ in devices], "under_way": [0 for _ in devices],
                "sight": [([], []) for _ in devices], "strays": [([], []) for _ in devices],
            })

    def test_groups(self):
        for groups in (1, 2, 32):
            machine = Machine(1, ["a", "b"], Setting(groups=groups))
            self.assertEqual(machine.holes("b"), [Run(0, 4 * groups)])

    def test_by_name(self):
        machine = Machine(devices=["a"], setting=Setting(groups=2), pages=3)
        self.assertEqual((machine.memory(), machine.holes("a")), ([0] * 12, [Run(0, 8)]))
        self.assertEqual(Machine(1, ["a"], setting=None).holes("a"), [Run(0, 64)])

    def test_arguments_are_not_kept(self):
        devices, setting = ["a", "b"], Setting(copies="all", batch=3, book=Book(cleaned=()))
        machine = Machine(1, devices, setting)
        devices.clear()
        setting.batch = setting.groups = 0
        setting.copies = "none"
        machine.write(0, 5)
        run = Run(0, 1)
        machine.bind("m", "b", run, "both")
        run.many = 3
        self.assertEqual(machine.owners(), (("m", "b", 0, 1, "both", "d"),))
        machine.write(0, 6)
        self.assertEqual(machine.fetch("m", 0), 5)
        machine.unbind("m")
        self.assertEqual(len(machine.waiting()), 1)

    def test_two_machines_share_nothing(self):
        setting = Setting(batch=2)
        one, other = Machine(1, ["a"], setting), Machine(1, ["a"], setting)
        before = state(other, ["a"])
        one.write(0, 5)
        one.bind("m", "a", Run(0, 4), "both")
        one.store("m", 0, 7)
        self.assertEqual(state(other, ["a"]), before)

    def test_lists_are_new(self):
        machine = Machine(1, ["a"], Setting(batch=8))
        machine.bind("m", "a", Run(0, 4), "both")
        machine.unbind("m")
        before = state(machine, ["a"])
        machine.memory().append(9)
        machine.holes("a").clear()
        machine.waiting().clear()
        machine.sight("a")[0].append(9)
        machine.strays("a")[1].append(9)
        self.assertEqual(state(machine, ["a"]), before)

    def test_interface_is_in_the_class_itself(self):
        for name in ("bind", "unbind", "give", "take", "flush", "read", "write", "load", "evict", "land", "peek", "poke",
                     "fetch", "store", "address", "owners", "memory", "held", "holes", "waiting", "under_way", "sight",
                     "strays", "__enter__", "__exit__"):
            self.assertIn(name, vars(Machine))
        self.assertIsInstance(vars(Machine)["held"], property)

    def test_all_arguments_by_name(self):
        machine = Machine(2, ["a"], Setting(cached=True))
        machine.bind(name="m", device="a", run=Run(0, 4), direction="both")
        self.assertIs(machine.store(name="m", word=1, value=7), True)
        self.assertIs(machine.poke(device="a", address=2, value=8), True)
        machine.land(device="a")
        machine.take(name="m", part=Run(1, 1))
        self.assertEqual(machine.read(word=1), 7)
        machine.write(word=1, value=9)
        machine.give(name="m", part=Run(1, 1))
        self.assertEqual(machine.fetch(name="m", word=1), 9)
        self.assertEqual(machine.peek(device="a", address=2), 8)
        machine.load(line=2)
        machine.evict(line=2)
        self.assertEqual(machine.address(name="m", word=3), 3)
        self.assertEqual(machine.under_way(device="a"), 0)
        self.assertEqual(machine.holes(device="a"), [Run(1, 63)])
        self.assertEqual(machine.sight(device="a"), ([0, 1, 2, 3], [0, 1, 2, 3]))
        self.assertEqual(machine.strays(device="a"), ([], []))
        machine.unbind(name="m")

    def test_deeds_have_no_result(self):
        machine = Machine(2, ["a"], Setting(cached=True))
        results = [
            machine.bind("m", "a", Run(0, 4), "both"), machine.take("m"), machine.give("m"), machine.flush(),
            machine.write(5, 1), machine.load(0), machine.evict(0), machine.land("a"), machine.unbind("m"),
        ]
        self.assertEqual(results, [None] * 9)


class Pages(unittest.TestCase):

    def test_one_page_for_each_touched_page(self):
        for first, many, pages in [(0, 1, 1), (3, 1, 1), (0, 4, 1), (3, 2, 2), (4, 4, 1), (2, 4, 2), (1, 16, 5),
                                   (3, 14, 5), (0, 16, 4), (48, 16, 4), (63, 1, 1), (60, 4, 1), (59, 2, 2)]:
            with self.subTest(first=first, many=many):
                machine = Machine(16, ["a"])
                machine.bind("m", "a", Run(first, many), "both")
                self.assertEqual(machine.holes("a"), [Run(pages, 64 - pages)])
                self.assertEqual(machine.owners(), (("m", "a", first, many, "both", "d" * many),))

    def test_addresses(self):
        machine = Machine(16, ["a", "b"])
        machine.bind("m", "a", Run(6, 3), "both")
        machine.bind("n", "a", Run(17, 1), "both")
        machine.bind("o", "b", Run(3, 2), "to")
        self.assertEqual([machine.address("m", word) for word in (6, 7, 8)], [2, 3, 4])
        self.assertEqual(machine.address("n", 17), 9)
        self.assertEqual([machine.address("o", word) for word in (3, 4)], [3, 4])
        machine.unbind("m")
        machine.bind("m", "a", Run(12, 4), "to")
        self.assertEqual(machine.address("m", 12), 0)

    def test_each_address_leads_to_its_word(self):
        machine = Machine(16, ["a"])
        for word in range(64):
            machine.write(word, 100 + word)
        machine.bind("k", "a", Run(0, 1), "both")
        machine.bind("m", "a", Run(7, 16), "to")
        for word in range(7, 23):
            address = machine.address("m", word)
            self.assertEqual(machine.peek("a", address), 100 + word)
            self.assertEqual(machine.fetch("m", word), 100 + word)
        self.assertEqual(machine.address("m", 7), 7)

    def test_each_device_has_its_own_space(self):
        machine = Machine(4, ["a", "b"])
        machine.bind("m", "a", Run(0, 4), "to")
        self.assertEqual((machine.holes("a"), machine.holes("b")), ([Run(1, 63)], [Run(0, 64)]))
        machine.bind("n", "b", Run(4, 4), "to")
        self.assertEqual((machine.address("m", 0), machine.address("n", 4)), (0, 0))

    def test_halves_answers_more_than_the_mapping_has(self):
        machine = Machine(8, ["a"], Setting(policy="halves", batch=1))
        machine.bind("m", "a", Run(0, 12), "both")
        self.assertEqual(machine.holes("a"), [Run(4, 60)])
        self.assertIsNone(machine.peek("a", 12))
        self.assertEqual(machine.sight("a"), (list(range(12)), list(range(12))))
        machine.unbind("m")
        self.assertEqual(machine.waiting(), [("a", Run(0, 4))])
        machine.flush()
        self.assertEqual(machine.holes("a"), [Run(0, 64)])

    def test_policy_next(self):
        machine = Machine(4, ["a"], Setting(policy="next", groups=1))
        for step in (0, 1, 2, 3, 0, 1):
            machine.bind("m", "a", Run(5, 1), "to")
            self.assertEqual(machine.address("m", 5), 4 * step + 1)
            machine.unbind("m")


class Bound(unittest.TestCase):

    def test_four_mappings_and_a_fifth(self):
        machine = Machine(16, ["a", "b", "c"])
        for name, device in [("k", "a"), ("l", "b"), ("m", "c"), ("n", "a")]:
            machine.bind(name, device, Run(0, 1), "to")
        before = state(machine, "abc")
        for device in "abc":
            with self.assertRaises(Full) as caught:
                machine.bind("o", device, Run(0, 1), "to")
            self.assertEqual(caught.exception.most, 4)
        self.assertEqual(state(machine, "abc"), before)
        machine.unbind("l")
        machine.bind("o", "c", Run(0, 1), "to")
        self.assertEqual([row[:2] for row in machine.owners()], [("k", "a"), ("m", "c"), ("n", "a"), ("o", "c")])

    def test_waiting_runs_are_not_bound(self):
        machine = Machine(1, ["a"], Setting(batch=8))
        for _ in range(8):
            machine.bind("m", "a", Run(0, 1), "to")
            machine.unbind("m")
        self.assertEqual(len(machine.waiting()), 8)
        for name in ("k", "l", "m", "n"):
            machine.bind(name, "a", Run(0, 1), "to")
        self.assertEqual(len(machine.owners()), 4)

    def test_owners_are_ascending(self):
        machine = Machine(4, ["b", "a"])
        machine.bind("zz", "a", Run(0, 2), "from")
        machine.bind("b", "b", Run(4, 3), "to")
        machine.bind("aaaaaaaa", "a", Run(8, 1), "both")
        machine.take("b", Run(5, 1))
        self.assertEqual(machine.owners(), (
            ("aaaaaaaa", "a", 8, 1, "both", "d"), ("b", "b", 4, 3, "to", "dpd"), ("zz", "a", 0, 2, "from", "dd"),
        ))

    def test_words_of_several_mappings(self):
        machine = Machine(2, ["a", "b"])
        machine.write(1, 5)
        machine.bind("m", "a", Run(0, 4), "to")
        machine.bind("n", "a", Run(0, 4), "to")
        machine.bind("o", "b", Run(1, 2), "both")
        self.assertEqual([machine.fetch(name, 1) for name in "mno"], [5, 5, 5])


class Tables(unittest.TestCase):

    def test_tables_of_all_devices_together(self):
        machine = Machine(4, ["a", "b"], Setting(tables=1, groups=4))
        machine.bind("m", "a", Run(0, 4), "to")
        with self.assertRaises(NoTable):
            machine.bind("n", "b", Run(0, 4), "to")
        machine.bind("n", "a", Run(0, 4), "to")
        machine.unbind("m")
        with self.assertRaises(NoTable):
            machine.bind("o", "b", Run(0, 4), "to")
        machine.unbind("n")
        machine.bind("o", "b", Run(0, 4), "to")

    def test_a_table_for_each_group(self):
        # Sixteen words touch five pages, which are in two groups.
        with self.assertRaises(NoTable):
            Machine(5, ["a"], Setting(tables=1)).bind("m", "a", Run(1, 16), "to")
        machine = Machine(5, ["a"], Setting(tables=2))
        machine.bind("m", "a", Run(1, 16), "to")
        machine.bind("n", "a", Run(1, 9), "to")
        with self.assertRaises(NoTable):
            machine.bind("o", "a", Run(0, 1), "to")

    def test_nothing_is_taken_without_a_table(self):
        machine = Machine(5, ["a", "b"], Setting(tables=2, policy="next", groups=2))
        machine.bind("m", "b", Run(0, 4), "to")
        before = state(machine, "ab")
        with self.assertRaises(NoTable):
            machine.bind("n", "a", Run(1, 16), "to")
        self.assertEqual(state(machine, "ab"), before)
        # The mark is as before, and no table is used up.
        machine.bind("n", "a", Run(0, 4), "to")
        self.assertEqual(machine.address("n", 0), 0)

    def test_nothing_is_taken_without_room(self):
        machine = Machine(5, ["a"], Setting(groups=1, policy="next"))
        machine.bind("m", "a", Run(0, 8), "to")
        before = state(machine, "a")
        with self.assertRaises(NoRoom) as caught:
            machine.bind("n", "a", Run(0, 9), "to")
        self.assertEqual(caught.exception.many, 3)
        self.assertEqual(state(machine, "a"), before)
        machine.bind("n", "a", Run(0, 1), "to")
        self.assertEqual(machine.address("n", 0), 8)

    def test_room_goes_before_tables(self):
        machine = Machine(5, ["a", "b"], Setting(groups=1, tables=1))
        machine.bind("m", "b", Run(0, 4), "to")
        with self.assertRaises(NoRoom) as caught:
            machine.bind("n", "a", Run(1, 16), "to")
        self.assertEqual(caught.exception.many, 5)

    def test_lowest_free_table(self):
        # The kept table of b shows which table a group of a has got.
        machine = Machine(4, ["a", "b"], Setting(early=True, batch=8, tables=2, groups=4))
        machine.write(0, 10)
        machine.write(4, 14)
        machine.bind("m", "b", Run(0, 4), "to")
        self.assertEqual(machine.fetch("m", 0), 10)
        machine.unbind("m")
        machine.bind("n", "a", Run(0, 8), "to")
        # The first page's entry is kept; the second one is looked up in the table that a's group has now.
        self.assertEqual([machine.peek("b", 0), machine.peek("b", 4)], [10, 14])

    def test_ascending_groups_get_ascending_tables(self):
        machine = Machine(5, ["a", "b"], Setting(early=True, batch=8, tables=2, groups=4, policy="first"))
        machine.write(0, 10)
        machine.write(16, 26)
        machine.bind("m", "b", Run(0, 1), "to")
        self.assertEqual(machine.fetch("m", 0), 10)
        machine.unbind("m")
        machine.bind("n", "a", Run(0, 1), "to")
        machine.bind("o", "a", Run(1, 16), "to")
        # Table 0 belongs to a's group 0, with the pages n, o, o, o.
        self.assertEqual([machine.address("n", 0), machine.address("o", 4)], [0, 8])
        self.assertEqual(machine.peek("b", 4), 10)
        # o's second last and last page are in group 1, which has table 1.
        self.assertEqual(machine.address("o", 16), 20)
        self.assertEqual(machine.fetch("o", 16), 26)
        self.assertIsNone(machine.peek("b", 20))

    def test_a_table_of_one_group_is_shared_by_mappings(self):
        machine = Machine(1, ["a"], Setting(tables=1, groups=1))
        for name in ("k", "l", "m", "n"):
            machine.bind(name, "a", Run(0, 4), "to")
        self.assertEqual(machine.holes("a"), [])
        for name in ("l", "k", "n", "m"):
            machine.unbind(name)
        self.assertEqual(machine.holes("a"), [Run(0, 4)])


class Waiting(unittest.TestCase):

    def made(self, batch):
        return Machine(4, ["a", "b"], Setting(batch=batch))

    def test_batch_of_0(self):
        machine = self.made(0)
        machine.bind("m", "a", Run(0, 8), "both")
        machine.unbind("m")
        self.assertEqual((machine.waiting(), machine.holes("a")), ([], [Run(0, 64)]))

    def test_batch_of_each_size(self):
        for batch in range(9):
            machine = self.made(batch)
            for many in range(batch):
                self.assertEqual(machine.waiting(), [("a", Run(page, 1)) for page in range(many)])
                machine.bind("m", "a", Run(0, 1), "both")
                machine.unbind("m")
            self.assertEqual(machine.holes("a"), [Run(batch, 64 - batch)])
            machine.bind("m", "a", Run(0, 1), "both")
            machine.unbind("m")
            self.assertEqual((machine.waiting(), machine.holes("a")), ([], [Run(0, 64)]))

    def test_runs_of_all_devices_count_together(self):
        machine = self.made(2)
        machine.bind("m", "a", Run(0, 8), "both")
        machine.bind("n", "b", Run(0, 1), "both")
        machine.bind("o", "b", Run(0, 1), "both")
        machine.unbind("n")
        machine.unbind("m")
        self.assertEqual(machine.waiting(), [("b", Run(0, 1)), ("a", Run(0, 2))])
        machine.unbind("o")
        self.assertEqual(machine.waiting(), [])

    def test_flush(self):
        machine = self.made(8)
        machine.bind("m", "a", Run(0, 8), "both")
        machine.bind("n", "b", Run(0, 8), "both")
        machine.unbind("m")
        machine.flush()
        self.assertEqual(machine.waiting(), [])
        self.assertEqual((machine.holes("a"), machine.holes("b")), ([Run(0, 64)], [Run(2, 62)]))
        self.assertEqual(machine.owners(), (("n", "b", 0, 8, "both", "d" * 8),))

    def test_tables_wait_until_the_flush(self):
        machine = Machine(4, ["a", "b"], Setting(batch=8, tables=2, groups=2))
        machine.bind("m", "a", Run(0, 1), "both")
        machine.bind("n", "b", Run(0, 1), "both")
        machine.unbind("m")
        with machine:
            machine.unbind("n")
        self.assertEqual(machine.waiting(), [("a", Run(0, 1)), ("b", Run(0, 1))])
        # Four pages beside the waiting one need both groups of a, so that one more table is lacking.
        machine.bind("o", "a", Run(0, 16), "both")
        self.assertEqual(machine.waiting(), [])
        self.assertEqual(machine.address("o", 0), 0)

    def test_a_waiting_group_keeps_its_table(self):
        machine = Machine(1, ["a", "b"], Setting(batch=8, tables=1, groups=1))
        machine.bind("m", "a", Run(0, 1), "both")
        machine.unbind("m")
        machine.bind("n", "a", Run(0, 1), "both")
        self.assertEqual(machine.waiting(), [("a", Run(0, 1))])
        self.assertEqual(machine.address("n", 0), 4)
        machine.flush()
        # The group has a mapping again, so the flush left it its table.
        self.assertIs(machine.store("n", 0, 5), True)
        with self.assertRaises(NoTable):
            machine.bind("o", "b", Run(0, 1), "both")

    def test_early_tables_are_free_at_once(self):
        for early in (True, False):
            machine = Machine(1, ["a", "b"], Setting(batch=8, early=early, tables=1, groups=1))
            machine.bind("m", "a", Run(0, 1), "both")
            machine.unbind("m")
            machine.bind("n", "b", Run(0, 1), "both")
            # Without early the table waits, so this bind had to flush.
            self.assertEqual(len(machine.waiting()), 1 if early else 0)

    def test_early_leaves_the_tables_of_groups_with_mappings(self):
        machine = Machine(1, ["a"], Setting(batch=8, early=True, tables=1, groups=1))
        machine.bind("m", "a", Run(0, 1), "both")
        machine.bind("n", "a", Run(0, 1), "both")
        machine.unbind("m")
        self.assertIs(machine.store("n", 0, 5), True)
        self.assertEqual(machine.fetch("n", 0), 5)

    def test_unbind_of_a_mapping_in_two_groups(self):
        for early in (True, False):
            machine = Machine(5, ["a", "b"], Setting(batch=8, early=early, tables=2, groups=2))
            machine.bind("m", "a", Run(0, 8), "both")
            machine.bind("n", "a", Run(0, 16), "both")
            machine.unbind("n")
            # Group 0 has the table still, for m; the one of group 1 is free or waits.
            machine.bind("o", "b", Run(0, 1), "both")
            self.assertEqual(len(machine.waiting()), 1 if early else 0)
            machine.flush()
            self.assertEqual(machine.fetch("m", 0), 0)


class Retried(unittest.TestCase):

    def test_room_after_a_flush(self):
        machine = Machine(4, ["a"], Setting(batch=8, groups=1))
        machine.bind("m", "a", Run(0, 12), "both")
        machine.unbind("m")
        machine.bind("n", "a", Run(0, 1), "both")
        self.assertEqual((machine.address("n", 0), machine.waiting()), (12, [("a", Run(0, 3))]))
        machine.bind("o", "a", Run(0, 5), "both")
        self.assertEqual((machine.address("o", 0), machine.waiting()), (0, []))

    def test_flush_remains_done_if_refused_again(self):
        machine = Machine(8, ["a"], Setting(batch=8, groups=1))
        machine.bind("k", "a", Run(0, 1), "both")
        machine.bind("m", "a", Run(0, 4), "both")
        machine.unbind("m")
        with self.assertRaises(NoRoom) as caught:
            machine.bind("n", "a", Run(1, 16), "both")
        self.assertEqual(caught.exception.many, 5)
        self.assertEqual((machine.waiting(), machine.holes("a")), ([], [Run(1, 3)]))
        self.assertEqual(machine.owners(), (("k", "a", 0, 1, "both", "d"),))

    def test_flush_remains_done_if_tables_are_lacking_again(self):
        machine = Machine(8, ["a", "b"], Setting(batch=8, groups=4, tables=2, policy="next"))
        machine.bind("k", "b", Run(0, 1), "both")
        machine.bind("m", "a", Run(0, 4), "both")
        machine.unbind("m")
        with self.assertRaises(NoTable):
            machine.bind("n", "a", Run(1, 16), "both")
        self.assertEqual((machine.waiting(), machine.holes("a")), ([], [Run(0, 16)]))
        machine.bind("n", "a", Run(0, 4), "both")
        self.assertEqual(machine.address("n", 0), 4)

    def test_flush_of_a_bind_lands_writes_if_drained(self):
        for drain in (True, False):
            machine = Machine(4, ["a", "b"], Setting(batch=8, groups=1, drain=drain))
            machine.bind("k", "b", Run(4, 4), "both")
            machine.store("k", 4, 9)
            machine.bind("m", "a", Run(0, 16), "both")
            machine.unbind("m")
            machine.bind("n", "a", Run(0, 1), "both")
            self.assertEqual(machine.memory()[4], 9 if drain else 0)
            self.assertEqual(machine.under_way("b"), 0 if drain else 1)

    def test_no_flush_if_nothing_waits(self):
        machine = Machine(4, ["a"], Setting(batch=8, groups=1))
        machine.bind("k", "a", Run(0, 4), "both")
        machine.store("k", 0, 9)
        with self.assertRaises(NoRoom):
            machine.bind("m", "a", Run(0, 16), "both")
        self.assertEqual((machine.under_way("a"), machine.memory()[0]), (1, 0))

    def test_no_flush_for_wrong_arguments(self):
        machine = Machine(4, ["a"], Setting(batch=8, groups=1))
        machine.bind("m", "a", Run(0, 16), "both")
        machine.unbind("m")
        for name, run, direction in [("M", Run(0, 16), "to"), ("m", Run(1, 16), "to"), ("m", Run(0, 16), "up")]:
            with self.assertRaises(ValueError):
                machine.bind(name, "a", run, direction)
        self.assertEqual(machine.waiting(), [("a", Run(0, 4))])


class Calm(unittest.TestCase):

    def test_gives_the_machine(self):
        machine = Machine(1, ["a"])
        with machine as given:
            self.assertIs(given, machine)

    def test_no_flush_because_of_the_batch(self):
        machine = Machine(1, ["a"])
        with machine:
            for _ in range(10):
                machine.bind("m", "a", Run(0, 1), "both")
                machine.unbind("m")
            self.assertEqual(len(machine.waiting()), 10)
        self.assertEqual(machine.waiting(), [("a", Run(page, 1)) for page in range(10)])

    def test_first_unbind_after_it_flushes(self):
        for batch, still in [(0, 0), (1, 0), (2, 0), (3, 3), (8, 3)]:
            machine = Machine(1, ["a"], Setting(batch=batch))
            machine.bind("k", "a", Run(0, 1), "both")
            with machine:
                for _ in range(2):
                    machine.bind("m", "a", Run(0, 1), "both")
                    machine.unbind("m")
            machine.bind("n", "a", Run(0, 1), "both")
            self.assertEqual(len(machine.waiting()), 2)
            machine.unbind("k")
            self.assertEqual(len(machine.waiting()), still)

    def test_flush_happens_as_always(self):
        machine = Machine(1, ["a"])
        with machine:
            machine.bind("m", "a", Run(0, 1), "both")
            machine.unbind("m")
            machine.flush()
            self.assertEqual((machine.waiting(), machine.holes("a")), ([], [Run(0, 64)]))

    def test_flush_of_bind_happens_as_always(self):
        machine = Machine(4, ["a"], Setting(groups=1))
        with machine:
            machine.bind("m", "a", Run(0, 16), "both")
            machine.unbind("m")
            machine.bind("m", "a", Run(0, 1), "both")
            self.assertEqual(machine.waiting(), [])
            self.assertEqual(machine.address("m", 0), 0)

    def test_left_by_an_error(self):
        class Own(Exception):
            pass

        machine = Machine(1, ["a"])
        with self.assertRaises(Own):
            with machine:
                machine.bind("m", "a", Run(0, 1), "both")
                machine.unbind("m")
                raise Own("no")
        self.assertEqual(machine.waiting(), [("a", Run(0, 1))])
        machine.bind("m", "a", Run(0, 1), "both")
        machine.unbind("m")
        self.assertEqual(machine.waiting(), [])

    def test_left_by_an_error_of_the_machine(self):
        machine = Machine(1, ["a"])
        with self.assertRaises(NoRoom):
            with machine:
                machine.bind("m", "a", Run(0, 1), "both")
                machine.unbind("m")
                raise NoRoom(3)
        self.assertEqual(len(machine.waiting()), 1)

    def test_tables_are_given_back_late(self):
        machine = Machine(1, ["a", "b"], Setting(early=True, batch=8, groups=1, tables=1))
        with machine:
            machine.bind("m", "a", Run(0, 1), "both")
            machine.unbind("m")
        # The table waits, so it takes a flush.
        machine.bind("n", "b", Run(0, 1), "both")
        self.assertEqual(machine.waiting(), [])

    def test_tables_are_given_back_early_afterwards(self):
        machine = Machine(1, ["a", "b"], Setting(early=True, batch=8, groups=1, tables=1))
        with machine:
            machine.bind("m", "a", Run(0, 1), "both")
        machine.unbind("m")
        machine.bind("n", "b", Run(0, 1), "both")
        self.assertEqual(machine.waiting(), [("a", Run(0, 1))])

    def test_one_block_after_the_other(self):
        machine = Machine(1, ["a"])
        for many in (1, 2, 3):
            with machine:
                machine.bind("m", "a", Run(0, 1), "both")
                machine.unbind("m")
            self.assertEqual(len(machine.waiting()), many)


if __name__ == "__main__":
    unittest.main()
