import copy
import inspect
import itertools
import random
import unittest

from devicewindows.errors import BadRun
from devicewindows.runs import Run, segments
from tests.values import HUGE, no_integers, no_runs

MOST = 10 ** 12


class Made(unittest.TestCase):

    def bad(self, first, many):
        with self.subTest(first=first, many=many):
            with self.assertRaises(BadRun):
                Run(first, many)

    def test_attributes(self):
        run = Run(6, 3)
        self.assertEqual(vars(run), {"first": 6, "many": 3})
        self.assertEqual(run.end, 9)
        self.assertEqual(Run(many=3, first=6), run)

    def test_bounds(self):
        for first, many in [(0, 1), (0, MOST), (MOST, 1), (MOST, MOST), (MOST - 1, MOST - 1), (1, 2)]:
            with self.subTest(first=first, many=many):
                run = Run(first, many)
                self.assertEqual((run.first, run.many, run.end), (first, many, first + many))

    def test_beside_the_bounds(self):
        for first, many in [(-1, 1), (0, 0), (0, -1), (MOST + 1, 1), (0, MOST + 1), (-1, 0), (MOST + 1, MOST + 1)]:
            self.bad(first, many)

    def test_wrong_values(self):
        for value in [HUGE, -HUGE] + no_integers():
            self.bad(value, 1)
            self.bad(0, value)
            self.bad(value, value)

    def test_sizes(self):
        self.assertEqual((Run.LINE, Run.PAGE), (2, 4))
        self.assertEqual((Run(1, 1).LINE, Run(1, 1).PAGE), (2, 4))

    def test_repr(self):
        self.assertEqual(repr(Run(6, 3)), "Run(6, 3)")
        self.assertEqual(repr(Run(0, MOST)), "Run(0, 1000000000000)")
        self.assertEqual(repr([Run(0, 1)]), "[Run(0, 1)]")

    def test_len(self):
        for many in [1, 2, 3, 2000, 2 ** 31, 2 ** 32 + 1, MOST]:
            with self.subTest(many=many):
                self.assertEqual(len(Run(5, many)), many)
        self.assertTrue(Run(0, 1))

    def test_interface_is_in_the_class_itself(self):
        for name in ["words", "touched_lines", "touched_pages", "of_page", "between", "end", "LINE", "PAGE",
                     "__eq__", "__contains__", "__and__", "__len__", "__repr__"]:
            self.assertIn(name, vars(Run))
        self.assertIsInstance(vars(Run)["of_page"], staticmethod)
        self.assertIsInstance(vars(Run)["between"], classmethod)
        self.assertIsInstance(vars(Run)["end"], property)


class Compared(unittest.TestCase):

    def test_equal(self):
        self.assertTrue(Run(3, 4) == Run(3, 4))
        self.assertFalse(Run(3, 4) != Run(3, 4))
        self.assertIs(Run(3, 4) == Run(3, 4), True)

    def test_other_runs(self):
        for other in [Run(3, 3), Run(3, 5), Run(2, 4), Run(4, 4), Run(4, 3), Run(2, 5)]:
            with self.subTest(other=other):
                self.assertIs(Run(3, 4) == other, False)
                self.assertIs(Run(3, 4) != other, True)

    def test_any_other_value(self):
        for other in no_runs() + [(3, 4), [3, 4], "Run(3, 4)", [Run(3, 4)], [3, 4, 5, 6]]:
            with self.subTest(other=other):
                self.assertIs(Run(3, 4) == other, False)
                self.assertIs(other == Run(3, 4), False)

    def test_one_word_run_is_not_its_word(self):
        self.assertIs(Run(1, 1) == 1, False)
        self.assertIs(Run(1, 1) == True, False)  # noqa: E712


class Contains(unittest.TestCase):

    def test_edges(self):
        for first, many in [(0, 1), (3, 4), (1, 1), (MOST, MOST), (0, MOST)]:
            run = Run(first, many)
            for word, inside in [(first - 1, False), (first, True), (first + many - 1, True), (first + many, False)]:
                with self.subTest(run=run, word=word):
                    self.assertIs(word in run, inside)

    def test_every_word(self):
        self.assertEqual([word for word in range(-3, 12) if word in Run(3, 4)], [3, 4, 5, 6])

    def test_integers_far_away(self):
        for word in [HUGE, -HUGE, -1, -3, 2 * MOST]:
            self.assertIs(word in Run(0, MOST), False)

    def test_any_other_value(self):
        for value in no_integers() + [(3,), [3], "3", Run(3, 1)]:
            with self.subTest(value=value):
                self.assertIs(value in Run(0, 10), False)

    def test_booleans_are_in_no_run(self):
        for run in [Run(0, 1), Run(1, 1), Run(0, 2), Run(0, MOST)]:
            self.assertIs(True in run, False)
            self.assertIs(False in run, False)


class Common(unittest.TestCase):

    def test_all_small_runs(self):
        runs = [Run(first, many) for first in range(6) for many in range(1, 7)]
        for one, other in itertools.product(runs, runs):
            both = [word for word in range(14) if word in one and word in other]
            common = one & other
            with self.subTest(one=one, other=other):
                if both:
                    self.assertEqual(common, Run(both[0], len(both)))
                else:
                    self.assertIsNone(common)

    def test_example(self):
        self.assertEqual(Run(3, 4) & Run(6, 9), Run(6, 1))
        self.assertEqual(Run(6, 9) & Run(3, 4), Run(6, 1))

    def test_neighbours_have_none(self):
        self.assertIsNone(Run(3, 4) & Run(7, 2))
        self.assertIsNone(Run(7, 2) & Run(3, 4))

    def test_far_out(self):
        self.assertEqual(Run(0, MOST) & Run(MOST - 1, MOST), Run(MOST - 1, 1))
        self.assertIsNone(Run(0, MOST) & Run(MOST, 1))
        self.assertEqual(Run(MOST, MOST) & Run(MOST, 5), Run(MOST, 5))

    def test_both_stay_as_they_are(self):
        one, other = Run(3, 4), Run(4, 9)
        common = one & other
        self.assertEqual((one, other, common), (Run(3, 4), Run(4, 9), Run(4, 3)))

    def test_the_common_run_is_a_new_object(self):
        run = Run(3, 4)
        self.assertIsNot(run & run, run)


class Words(unittest.TestCase):

    def test_ascending(self):
        self.assertEqual(list(Run(6, 2).words()), [6, 7])
        self.assertEqual(list(Run(0, 1).words()), [0])
        self.assertEqual(list(Run(MOST, 3).words()), [MOST, MOST + 1, MOST + 2])

    def test_generator_each_time_anew(self):
        run = Run(3, 3)
        one = run.words()
        self.assertTrue(inspect.isgenerator(one))
        self.assertEqual(next(one), 3)
        self.assertEqual(list(run.words()), [3, 4, 5])
        self.assertEqual(list(one), [4, 5])
        self.assertEqual(list(one), [])

    def test_first_words_of_a_very_long_run(self):
        self.assertEqual(list(itertools.islice(Run(MOST, MOST).words(), 3)), [MOST, MOST + 1, MOST + 2])


class Touched(unittest.TestCase):

    def check(self, run):
        with self.subTest(run=run):
            words = list(run.words())
            for touched, size in [(run.touched_lines(), 2), (run.touched_pages(), 4)]:
                self.assertIsInstance(touched, Run)
                self.assertEqual(list(touched.words()), sorted({word // size for word in words}))

    def test_every_place(self):
        for first in range(9):
            for many in range(1, 14):
                self.check(Run(first, many))

    def test_far_out(self):
        for first in range(MOST - 8, MOST + 1):
            for many in range(1, 10):
                self.check(Run(first, many))

    def test_very_long(self):
        self.assertEqual(Run(0, MOST).touched_lines(), Run(0, MOST // 2))
        self.assertEqual(Run(0, MOST).touched_pages(), Run(0, MOST // 4))
        self.assertEqual(Run(MOST, MOST).touched_lines(), Run(MOST // 2, MOST // 2))
        self.assertEqual(Run(MOST - 1, MOST).touched_lines(), Run(MOST // 2 - 1, MOST // 2 + 1))
        self.assertEqual(Run(MOST - 1, MOST).touched_pages(), Run(MOST // 4 - 1, MOST // 4 + 1))

    def test_example(self):
        self.assertEqual(Run(3, 4).touched_pages(), Run(0, 2))
        self.assertEqual(Run(3, 4).touched_lines(), Run(1, 3))


class Pages(unittest.TestCase):

    def test_words_of_a_page(self):
        for page in [0, 1, 2, 15, 1000, MOST // 4]:
            with self.subTest(page=page):
                self.assertEqual(Run.of_page(page), Run(4 * page, 4))
        self.assertEqual(Run.of_page(page=3), Run(12, 4))
        self.assertEqual(Run(5, 1).of_page(1), Run(4, 4))

    def test_is_the_one_touched_page(self):
        for page in range(20):
            self.assertEqual(Run.of_page(page).touched_pages(), Run(page, 1))


class Between(unittest.TestCase):

    def bad(self, first, end):
        with self.subTest(first=first, end=end):
            with self.assertRaises(BadRun):
                Run.between(first, end)

    def test_small(self):
        for first in range(6):
            for end in range(-2, 12):
                if end > first:
                    self.assertEqual(Run.between(first, end), Run(first, end - first))
                else:
                    self.bad(first, end)

    def test_by_name(self):
        self.assertEqual(Run.between(end=9, first=6), Run(6, 3))

    def test_bounds(self):
        for first, end in [(0, 1), (0, MOST), (MOST, MOST + 1), (MOST, 2 * MOST), (1, MOST + 1)]:
            with self.subTest(first=first, end=end):
                self.assertEqual(Run.between(first, end), Run(first, end - first))
        for first, end in [(-1, 0), (-1, 1), (0, 0), (0, MOST + 1), (MOST, MOST), (MOST + 1, MOST + 2),
                           (MOST, 2 * MOST + 1), (5, 4), (HUGE, HUGE + 1), (-HUGE, 1 - HUGE)]:
            self.bad(first, end)

    def test_wrong_values(self):
        for value in [HUGE, -HUGE] + no_integers():
            self.bad(0, value)
            self.bad(value, 5)
            self.bad(value, value)

    def test_booleans(self):
        self.bad(False, 5)
        self.bad(0, True)
        self.bad(False, True)


def greedy(runs, longest, boundary):
    """The same, one word after the other."""
    made = []
    for word in [word for run in runs for word in run.words()]:
        fits = bool(made) and made[-1][-1] + 1 == word and len(made[-1]) < longest
        if fits and boundary is not None:
            fits = made[-1][0] // boundary == word // boundary
        if fits:
            made[-1].append(word)
        else:
            made.append([word])
    return [(words[0], len(words)) for words in made]


def fewest(words, longest, boundary):
    """How many segments any cut has at least."""
    least = [0]
    for end in range(1, len(words) + 1):
        best = None
        for first in range(end):
            part = words[first:end]
            whole = len(part) <= longest and part == list(range(part[0], part[0] + len(part)))
            if boundary is not None:
                whole = whole and part[0] // boundary == part[-1] // boundary
            if whole and (best is None or least[first] + 1 < best):
                best = least[first] + 1
        least.append(best)
    return least[-1]


class Segments(unittest.TestCase):

    def check(self, runs, longest, boundary):
        before = copy.deepcopy(runs)
        given = list(runs)
        cut = segments(runs, longest=longest, boundary=boundary)
        with self.subTest(runs=runs, longest=longest, boundary=boundary):
            self.assertIsInstance(cut, list)
            self.assertTrue(all(isinstance(segment, Run) for segment in cut))
            self.assertEqual([(segment.first, segment.many) for segment in cut], greedy(runs, longest, boundary))
            self.assertEqual(runs, before)
            self.assertTrue(all(one is other for one, other in zip(runs, given, strict=True)))
        return cut

    def test_example(self):
        self.assertEqual(segments([Run(2, 3), Run(5, 2), Run(9, 1)], longest=4), [Run(2, 4), Run(6, 1), Run(9, 1)])

    def test_no_runs(self):
        for longest in (1, 4, MOST):
            for boundary in (None, 1, 4):
                self.assertEqual(segments([], longest=longest, boundary=boundary), [])

    def test_run_from_the_word_0(self):
        self.assertEqual(segments([Run(0, 5)], longest=5), [Run(0, 5)])
        self.assertEqual(segments([Run(4, 2), Run(0, 5)], longest=5), [Run(4, 2), Run(0, 5)])

    def test_longest(self):
        self.assertEqual(segments([Run(3, 5)], longest=1), [Run(3, 1), Run(4, 1), Run(5, 1), Run(6, 1), Run(7, 1)])
        self.assertEqual(segments([Run(3, 5)], longest=4), [Run(3, 4), Run(7, 1)])
        self.assertEqual(segments([Run(3, 5)], longest=5), [Run(3, 5)])
        self.assertEqual(segments([Run(3, 5)], longest=10 ** 30), [Run(3, 5)])

    def test_boundary(self):
        self.assertEqual(segments([Run(3, 6)], longest=9, boundary=4), [Run(3, 1), Run(4, 4), Run(8, 1)])
        self.assertEqual(segments([Run(3, 3)], longest=9, boundary=1), [Run(3, 1), Run(4, 1), Run(5, 1)])
        self.assertEqual(segments([Run(3, 3)], longest=9, boundary=6), [Run(3, 3)])
        self.assertEqual(segments([Run(3, 4)], longest=9, boundary=6), [Run(3, 3), Run(6, 1)])
        self.assertEqual(segments([Run(3, 3)], longest=9, boundary=10 ** 30), [Run(3, 3)])

    def test_boundary_is_none_by_default(self):
        self.assertEqual(segments([Run(3, 6)], longest=9), [Run(3, 6)])
        self.assertEqual(segments([Run(3, 6)], longest=9, boundary=None), [Run(3, 6)])

    def test_each_segment_goes_on_from_the_last_one(self):
        self.assertEqual(segments([Run(3, 8)], longest=3, boundary=4), [Run(3, 1), Run(4, 3), Run(7, 1), Run(8, 3)])

    def test_neighbours(self):
        self.assertEqual(segments([Run(2, 1), Run(3, 1), Run(4, 1)], longest=3), [Run(2, 3)])
        self.assertEqual(segments([Run(2, 2), Run(4, 2)], longest=3, boundary=4), [Run(2, 2), Run(4, 2)])

    def test_hole(self):
        self.assertEqual(segments([Run(2, 2), Run(5, 2)], longest=9), [Run(2, 2), Run(5, 2)])

    def test_earlier_and_overlapping(self):
        self.assertEqual(segments([Run(5, 2), Run(3, 2)], longest=9), [Run(5, 2), Run(3, 2)])
        self.assertEqual(segments([Run(3, 3), Run(5, 2)], longest=9), [Run(3, 3), Run(5, 2)])
        self.assertEqual(segments([Run(3, 3), Run(3, 3)], longest=9), [Run(3, 3), Run(3, 3)])
        self.assertEqual(segments([Run(3, 4), Run(4, 1)], longest=9), [Run(3, 4), Run(4, 1)])
        self.assertEqual(segments([Run(3, 2), Run(5, 2), Run(4, 3)], longest=9), [Run(3, 4), Run(4, 3)])

    def test_far_out(self):
        self.assertEqual(segments([Run(MOST, 5)], longest=5), [Run(MOST, 5)])
        self.check([Run(MOST - 9, 9), Run(MOST - 40, 7)], 4, 3)
        self.assertEqual(segments([Run(0, MOST)], longest=MOST // 2), [Run(0, MOST // 2), Run(MOST // 2, MOST // 2)])

    def test_arguments_behind_the_star_by_name_only(self):
        with self.assertRaises(TypeError):
            segments([Run(0, 1)], 4)
        with self.assertRaises(TypeError):
            segments([Run(0, 1)], 4, None)
        self.assertEqual(segments(runs=[Run(0, 1)], boundary=2, longest=4), [Run(0, 1)])

    def test_list_and_runs_are_new(self):
        runs = [Run(2, 3)]
        cut = segments(runs, longest=4)
        self.assertIsNot(cut, runs)
        self.assertIsNot(cut[0], runs[0])
        cut.append(Run(0, 1))
        self.assertEqual(runs, [Run(2, 3)])
        self.assertEqual(segments(runs, longest=4), [Run(2, 3)])

    def test_pairs_and_triples_of_small_runs(self):
        runs = [Run(first, many) for first in range(4) for many in (1, 2, 3)]
        for one, other in itertools.product(runs, runs):
            for longest, boundary in itertools.product((1, 2, 3, 5), (None, 1, 2, 3, 4)):
                self.check([one, other], longest, boundary)
        for rows in itertools.product(runs[::2], runs[1::2], runs[::3]):
            self.check(list(rows), 3, 4)

    def test_many_runs(self):
        dice = random.Random(7)
        for _ in range(60):
            runs, end = [], 0
            for _ in range(dice.randint(1, 40)):
                first = dice.choice([end, end, end + dice.randint(1, 9), dice.randint(0, 60)])
                runs.append(Run(first, dice.choice([1, 1, 2, 3, 7, 20, 50])))
                end = runs[-1].end
            for longest in (1, 2, 5, 16, 3000):
                for boundary in (None, 1, 3, 4, 64):
                    self.check(runs, longest, boundary)

    def test_two_thousand_words(self):
        runs = [Run(50 * place, 50) for place in range(40)]
        self.assertEqual(segments(runs, longest=2000), [Run(0, 2000)])
        self.assertEqual(len(segments(runs, longest=1)), 2000)
        self.assertEqual(len(segments(runs[::-1], longest=50)), 40)

    def test_no_cut_has_fewer(self):
        dice = random.Random(11)
        for _ in range(80):
            runs = [Run(dice.randint(0, 9), dice.randint(1, 5)) for _ in range(dice.randint(1, 3))]
            words = [word for run in runs for word in run.words()]
            for longest, boundary in itertools.product((1, 2, 4, 20), (None, 2, 3, 4)):
                cut = self.check(runs, longest, boundary)
                self.assertEqual(len(cut), fewest(words, longest, boundary))


if __name__ == "__main__":
    unittest.main()
