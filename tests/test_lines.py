import random
import unittest

from devicewindows.lines import Lines


class Model:
    """The words of point 4, each word of the cache on its own."""

    def __init__(self, words):
        self.words = words
        self.cached = {}
        self.dirty = set()

    def load(self, line):
        for word in (2 * line, 2 * line + 1):
            self.cached.setdefault(word, self.words[word])

    def read(self, word):
        self.load(word // 2)
        return self.cached[word]

    def write(self, word, value):
        self.load(word // 2)
        self.cached[word] = value
        self.dirty.add(word // 2)

    def clean(self, line):
        if line in self.dirty:
            for word in (2 * line, 2 * line + 1):
                self.words[word] = self.cached[word]
        self.dirty.discard(line)

    def drop(self, line):
        for word in (2 * line, 2 * line + 1):
            self.cached.pop(word, None)
        self.dirty.discard(line)

    def evict(self, line):
        self.clean(line)
        self.drop(line)

    @property
    def held(self):
        return tuple((line, line in self.dirty) for line in sorted({word // 2 for word in self.cached}))


class LinesTest(unittest.TestCase):

    def setUp(self):
        self.words = [10, 11, 12, 13, 14, 15]
        self.lines = Lines(self.words)

    def state(self, words, held):
        self.assertEqual(self.words, words)
        self.assertEqual(self.lines.held, held)


class NotHeld(LinesTest):

    def test_new(self):
        self.state([10, 11, 12, 13, 14, 15], ())

    def test_read(self):
        self.assertEqual(self.lines.read(3), 13)
        self.assertEqual(self.lines.read(4), 14)
        self.state([10, 11, 12, 13, 14, 15], ((1, False), (2, False)))

    def test_write(self):
        self.assertIsNone(self.lines.write(2, 5))
        self.state([10, 11, 12, 13, 14, 15], ((1, True),))
        self.assertEqual([self.lines.read(2), self.lines.read(3)], [5, 13])

    def test_load(self):
        self.assertIsNone(self.lines.load(2))
        self.state([10, 11, 12, 13, 14, 15], ((2, False),))

    def test_clean_drop_and_evict_do_nothing(self):
        self.lines.write(0, 5)
        for action in (self.lines.clean, self.lines.drop, self.lines.evict):
            for line in (1, 2):
                self.assertIsNone(action(line))
                self.state([10, 11, 12, 13, 14, 15], ((0, True),))

    def test_clean_does_not_load(self):
        self.lines.clean(1)
        self.words[2] = 99
        self.assertEqual(self.lines.read(2), 99)


class HeldClean(LinesTest):

    def setUp(self):
        super().setUp()
        self.lines.load(1)

    def test_read_gives_the_held_value(self):
        self.words[2:4] = [70, 71]
        self.assertEqual([self.lines.read(2), self.lines.read(3)], [12, 13])
        self.state([10, 11, 70, 71, 14, 15], ((1, False),))

    def test_load_changes_nothing(self):
        self.words[2:4] = [70, 71]
        self.lines.load(1)
        self.assertEqual([self.lines.read(2), self.lines.read(3)], [12, 13])
        self.state([10, 11, 70, 71, 14, 15], ((1, False),))

    def test_write_keeps_the_other_held_value(self):
        self.words[2:4] = [70, 71]
        self.lines.write(3, 5)
        self.state([10, 11, 70, 71, 14, 15], ((1, True),))
        self.lines.clean(1)
        self.state([10, 11, 12, 5, 14, 15], ((1, False),))

    def test_write_of_the_same_value_is_dirty(self):
        self.lines.write(2, 12)
        self.state([10, 11, 12, 13, 14, 15], ((1, True),))

    def test_clean_writes_nothing_over_newer_values(self):
        self.words[2:4] = [70, 71]
        self.assertIsNone(self.lines.clean(1))
        self.state([10, 11, 70, 71, 14, 15], ((1, False),))
        self.assertEqual(self.lines.read(2), 12)

    def test_evict_writes_nothing_over_newer_values(self):
        self.words[2:4] = [70, 71]
        self.assertIsNone(self.lines.evict(1))
        self.state([10, 11, 70, 71, 14, 15], ())
        self.assertEqual(self.lines.read(2), 70)

    def test_drop(self):
        self.words[2:4] = [70, 71]
        self.assertIsNone(self.lines.drop(1))
        self.state([10, 11, 70, 71, 14, 15], ())
        self.assertEqual(self.lines.read(3), 71)


class HeldDirty(LinesTest):

    def setUp(self):
        super().setUp()
        self.lines.write(3, 5)

    def test_read(self):
        self.assertEqual([self.lines.read(2), self.lines.read(3)], [12, 5])
        self.state([10, 11, 12, 13, 14, 15], ((1, True),))

    def test_load_stays_dirty(self):
        self.lines.load(1)
        self.assertEqual(self.lines.read(3), 5)
        self.state([10, 11, 12, 13, 14, 15], ((1, True),))

    def test_second_write(self):
        self.lines.write(2, 6)
        self.lines.write(3, 7)
        self.state([10, 11, 12, 13, 14, 15], ((1, True),))
        self.lines.clean(1)
        self.state([10, 11, 6, 7, 14, 15], ((1, False),))

    def test_clean_writes_both_values(self):
        self.words[2:4] = [70, 71]
        self.assertIsNone(self.lines.clean(1))
        self.state([10, 11, 12, 5, 14, 15], ((1, False),))

    def test_clean_again_writes_nothing(self):
        self.lines.clean(1)
        self.words[2:4] = [70, 71]
        self.lines.clean(1)
        self.state([10, 11, 70, 71, 14, 15], ((1, False),))
        self.assertEqual(self.lines.read(3), 5)

    def test_cleaned_line_can_be_dirty_again(self):
        self.lines.clean(1)
        self.lines.write(2, 8)
        self.state([10, 11, 12, 5, 14, 15], ((1, True),))
        self.lines.clean(1)
        self.state([10, 11, 8, 5, 14, 15], ((1, False),))

    def test_memory_does_not_change_with_later_writes(self):
        self.lines.clean(1)
        self.lines.write(3, 9)
        self.assertEqual(self.words[3], 5)

    def test_drop_brings_back_the_values_of_memory(self):
        self.words[2] = 70
        self.assertIsNone(self.lines.drop(1))
        self.state([10, 11, 70, 13, 14, 15], ())
        self.assertEqual([self.lines.read(2), self.lines.read(3)], [70, 13])
        self.state([10, 11, 70, 13, 14, 15], ((1, False),))

    def test_dropped_line_is_clean_when_it_is_loaded_again(self):
        self.lines.drop(1)
        self.lines.load(1)
        self.words[2:4] = [70, 71]
        self.lines.evict(1)
        self.state([10, 11, 70, 71, 14, 15], ())

    def test_evict_writes_both_values(self):
        self.words[2:4] = [70, 71]
        self.assertIsNone(self.lines.evict(1))
        self.state([10, 11, 12, 5, 14, 15], ())
        self.words[3] = 72
        self.assertEqual(self.lines.read(3), 72)


class Held(LinesTest):

    def test_ascending_whatever_the_order(self):
        for line in (2, 0, 1):
            self.lines.load(line)
        self.lines.write(2, 5)
        self.assertEqual(self.lines.held, ((0, False), (1, True), (2, False)))

    def test_kinds(self):
        self.lines.write(0, 5)
        held = self.lines.held
        self.assertIsInstance(held, tuple)
        self.assertIsInstance(held[0], tuple)
        self.assertIs(held[0][1], True)
        self.lines.clean(0)
        self.assertIs(self.lines.held[0][1], False)
        self.assertEqual(held, ((0, True),))

    def test_is_a_property_of_the_class_itself(self):
        self.assertIsInstance(vars(Lines)["held"], property)
        for name in ("read", "write", "load", "clean", "drop", "evict"):
            self.assertIn(name, vars(Lines))


class Memory(unittest.TestCase):

    def test_the_very_list(self):
        words = [0, 0]
        one, other = Lines(words), Lines(words)
        one.write(0, 5)
        one.clean(0)
        self.assertEqual(words, [5, 0])
        self.assertEqual(other.read(0), 5)

    def test_two_caches_share_no_lines(self):
        words = [1, 2]
        one, other = Lines(words), Lines(words)
        one.write(0, 5)
        self.assertEqual((one.held, other.held), (((0, True),), ()))
        self.assertEqual(other.read(0), 1)

    def test_no_words(self):
        self.assertEqual(Lines([]).held, ())

    def test_arguments_by_name(self):
        words = [1, 2, 3, 4]
        lines = Lines(words=words)
        lines.write(word=1, value=-999999999999)
        self.assertEqual(lines.read(word=1), -999999999999)
        lines.load(line=1)
        lines.clean(line=0)
        lines.evict(line=1)
        lines.drop(line=0)
        self.assertEqual((words, lines.held), ([1, -999999999999, 3, 4], ()))

    def test_long_memory(self):
        words = list(range(64))
        lines = Lines(words)
        for line in range(31, -1, -1):
            lines.write(2 * line + line % 2, -line)
        self.assertEqual(words, list(range(64)))
        self.assertEqual(lines.held, tuple((line, True) for line in range(32)))
        for line in range(32):
            lines.evict(line)
        self.assertEqual(words, [-(word // 2) if word % 2 == word // 2 % 2 else word for word in range(64)])


class AgainstTheModel(unittest.TestCase):

    def step(self, dice, at, lines, model, words, twin):
        action = dice.choice(["read", "write", "load", "clean", "drop", "evict", "memory"])
        word = dice.randrange(len(words))
        if action == "memory":
            words[word] = twin[word] = at
            return None, None
        if action == "write":
            return lines.write(word, at), model.write(word, at)
        if action == "read":
            return lines.read(word), model.read(word)
        return getattr(lines, action)(word // 2), getattr(model, action)(word // 2)

    def test_long_rows_of_calls(self):
        for seed in range(40):
            dice = random.Random(seed)
            words = [dice.randint(-99, -1) for _ in range(6)]
            twin = list(words)
            lines, model = Lines(words), Model(twin)
            for at in range(200):
                got, wanted = self.step(dice, at, lines, model, words, twin)
                with self.subTest(seed=seed, at=at):
                    self.assertEqual(got, wanted)
                    self.assertEqual(words, twin)
                    self.assertEqual(lines.held, model.held)


if __name__ == "__main__":
    unittest.main()
