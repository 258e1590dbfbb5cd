import random
import unittest

from devicewindows.errors import BadPolicy, NoRoom, NotTaken
from devicewindows.runs import Run
from devicewindows.spaces import Space
from tests.values import HUGE, no_integers, no_runs, nested

WORDS = ("first", "best", "worst", "next", "halves")


def with_holes(pages, holes, policy):
    """A space in which just these holes, (first, many), are free; the mark of "next" is then `pages`."""
    space = Space(pages, policy)
    for page in range(pages):
        space.take(1)
    for first, many in holes:
        for page in range(first, first + many):
            space.give_back(Run(page, 1))
    return space


def state(space):
    return list(space.holes()), space.free, space.mark


class New(unittest.TestCase):

    def test_one_page(self):
        for policy in WORDS:
            with self.subTest(policy=policy):
                space = Space(1, policy)
                self.assertEqual(state(space), ([Run(0, 1)], 1, 0))
                self.assertEqual(space.take(1), Run(0, 1))
                self.assertEqual(state(space), ([], 0, 1 if policy == "next" else 0))
                with self.assertRaises(NoRoom):
                    space.take(1)
                self.assertIsNone(space.give_back(Run(0, 1)))
                self.assertEqual(state(space)[:2], ([Run(0, 1)], 1))

    def test_128_pages(self):
        for policy in WORDS:
            with self.subTest(policy=policy):
                space = Space(128, policy)
                self.assertEqual(state(space), ([Run(0, 128)], 128, 0))
                with self.assertRaises(NoRoom):
                    space.take(129)
                self.assertEqual(space.take(128), Run(0, 128))
                self.assertEqual(state(space)[:2], ([], 0))

    def test_policy_is_first_by_default(self):
        space = Space(8)
        taken = [space.take(2), space.take(2), space.take(2)]
        space.give_back(taken[1])
        self.assertEqual(space.take(1), Run(2, 1))
        self.assertEqual(space.mark, 0)

    def test_by_name(self):
        space = Space(policy="best", pages=3)
        self.assertEqual(space.take(many=2), Run(0, 2))
        self.assertIsNone(space.give_back(run=Run(0, 2)))

    def test_two_spaces_share_nothing(self):
        one, other = Space(4), Space(4)
        one.take(3)
        self.assertEqual(state(other), ([Run(0, 4)], 4, 0))

    def test_interface_is_in_the_class_itself(self):
        for name in ("take", "give_back", "holes", "free", "mark"):
            self.assertIn(name, vars(Space))
        self.assertIsInstance(vars(Space)["free"], property)
        self.assertIsInstance(vars(Space)["mark"], property)


class BadPolicies(unittest.TestCase):

    def test_values(self):
        wrong = [0, 1, -1, HUGE, -HUGE, "First", "first ", "firstbest", "", ("first",), ["first"], WORDS, nested(6)]
        wrong += [value for value in no_integers() if value is None or isinstance(value, (bool, str, list, tuple))]
        for policy in wrong:
            with self.subTest(policy=policy):
                with self.assertRaises(BadPolicy):
                    Space(4, policy)
                with self.assertRaises(BadPolicy):
                    Space(4, policy=policy)


class Holes(unittest.TestCase):

    def test_ascending_and_longest(self):
        space = with_holes(12, [(7, 1), (1, 2), (9, 3), (3, 1)], "first")
        self.assertEqual(list(space.holes()), [Run(1, 3), Run(7, 1), Run(9, 3)])
        self.assertEqual(space.free, 7)

    def test_at_both_ends(self):
        space = with_holes(5, [(0, 1), (4, 1)], "first")
        self.assertEqual(list(space.holes()), [Run(0, 1), Run(4, 1)])

    def test_neighbours_become_one_hole_again(self):
        space = Space(6)
        taken = [space.take(2), space.take(1), space.take(3)]
        self.assertEqual(list(space.holes()), [])
        space.give_back(taken[0])
        space.give_back(taken[2])
        self.assertEqual(list(space.holes()), [Run(0, 2), Run(3, 3)])
        space.give_back(taken[1])
        self.assertEqual(list(space.holes()), [Run(0, 6)])

    def test_each_call_is_new(self):
        space = Space(6)
        for hole in space.holes():
            self.assertEqual(hole, Run(0, 6))
        first = list(space.holes())
        first.clear()
        self.assertEqual(list(space.holes()), [Run(0, 6)])


class Answers(unittest.TestCase):

    HOLES = [(1, 2), (4, 4), (9, 3), (13, 4), (18, 3)]

    def answered(self, policy, many):
        return with_holes(24, self.HOLES, policy).take(many)

    def test_first(self):
        for many, first in [(1, 1), (2, 1), (3, 4), (4, 4)]:
            self.assertEqual(self.answered("first", many), Run(first, many))

    def test_best(self):
        for many, first in [(1, 1), (2, 1), (3, 9), (4, 4)]:
            self.assertEqual(self.answered("best", many), Run(first, many))

    def test_worst(self):
        for many in (1, 2, 3, 4):
            self.assertEqual(self.answered("worst", many), Run(4, many))

    def test_as_great_as_a_hole_and_one_more(self):
        for policy in WORDS[:4]:
            with self.subTest(policy=policy):
                space = with_holes(12, [(2, 3), (7, 4)], policy)
                before = state(space)
                with self.assertRaises(NoRoom) as caught:
                    space.take(5)
                self.assertEqual(caught.exception.many, 5)
                self.assertEqual(state(space), before)
                self.assertEqual(space.take(4), Run(7, 4))
                self.assertEqual(space.take(3), Run(2, 3))
                self.assertEqual(space.free, 0)

    def test_enough_pages_but_no_hole(self):
        for policy in WORDS:
            space = with_holes(7, [(0, 2), (3, 2), (6, 1)], policy)
            with self.subTest(policy=policy), self.assertRaises(NoRoom):
                space.take(3)

    def test_far_too_many(self):
        for policy in WORDS + (lambda holes, many: holes[0],):
            space = Space(128, policy)
            for many in (129, 10 ** 39):
                with self.assertRaises(NoRoom) as caught:
                    space.take(many)
                self.assertEqual(caught.exception.many, many)
            self.assertEqual(state(space), ([Run(0, 128)], 128, 0))


class Next(unittest.TestCase):

    def test_goes_on_at_the_mark(self):
        space = Space(10, "next")
        self.assertEqual(space.mark, 0)
        self.assertEqual(space.take(3), Run(0, 3))
        self.assertEqual(space.mark, 3)
        space.give_back(Run(0, 3))
        self.assertEqual(space.mark, 3)
        self.assertEqual(space.take(2), Run(3, 2))
        self.assertEqual(space.take(1), Run(5, 1))
        self.assertEqual(space.mark, 6)

    def test_begins_within_a_hole(self):
        space = Space(10, "next")
        space.take(4)
        space.give_back(Run(0, 4))
        self.assertEqual(list(space.holes()), [Run(0, 10)])
        self.assertEqual(space.take(6), Run(4, 6))

    def test_none_above_is_the_lowest_of_all(self):
        space = Space(10, "next")
        space.take(4)
        space.give_back(Run(0, 4))
        self.assertEqual(space.take(7), Run(0, 7))
        self.assertEqual(space.mark, 7)

    def test_mark_at_the_end_of_the_space(self):
        space = Space(6, "next")
        space.take(2)
        space.take(4)
        self.assertEqual(space.mark, 6)
        space.give_back(Run(2, 4))
        self.assertEqual(space.take(1), Run(2, 1))
        self.assertEqual(space.mark, 3)

    def test_refused_request_leaves_the_mark(self):
        space = Space(6, "next")
        space.take(2)
        with self.assertRaises(NoRoom):
            space.take(5)
        self.assertEqual(space.mark, 2)

    def test_a_hole_that_ends_behind_the_mark_is_too_small(self):
        space = with_holes(12, [(0, 3), (5, 3), (9, 2)], "next")
        space.take(2)
        self.assertEqual(space.mark, 2)
        self.assertEqual(space.take(2), Run(5, 2))
        self.assertEqual(space.take(2), Run(9, 2))
        self.assertEqual(space.take(1), Run(2, 1))

    def test_only_next_has_a_mark(self):
        for policy in ("first", "best", "worst", "halves", lambda holes, many: holes[0]):
            space = Space(6, policy)
            space.take(2)
            self.assertEqual(space.mark, 0)


class Halves(unittest.TestCase):

    def test_sizes(self):
        sizes = [(1, 1), (2, 2), (3, 4), (4, 4), (5, 8), (8, 8), (9, 16), (16, 16), (17, 32), (33, 64), (65, 128),
                 (128, 128)]
        for many, size in sizes:
            with self.subTest(many=many):
                space = Space(128, "halves")
                self.assertEqual(space.take(many), Run(0, size))
                self.assertEqual(space.free, 128 - size)

    def test_multiples_of_the_size(self):
        space = Space(16, "halves")
        self.assertEqual([space.take(1), space.take(2), space.take(3), space.take(1), space.take(5)],
                         [Run(0, 1), Run(2, 2), Run(4, 4), Run(1, 1), Run(8, 8)])

    def test_second_multiple_in_a_hole(self):
        space = with_holes(16, [(5, 7)], "halves")
        self.assertEqual(space.take(4), Run(8, 4))
        self.assertEqual(space.take(2), Run(6, 2))

    def test_hole_that_is_great_enough_but_not_aligned(self):
        space = with_holes(16, [(5, 6)], "halves")
        with self.assertRaises(NoRoom) as caught:
            space.take(3)
        self.assertEqual(caught.exception.many, 3)
        self.assertEqual(space.free, 6)
        self.assertEqual(space.take(2), Run(6, 2))

    def test_size_that_is_not_in_the_space(self):
        space = Space(6, "halves")
        with self.assertRaises(NoRoom) as caught:
            space.take(5)
        self.assertEqual(caught.exception.many, 5)
        self.assertEqual(space.take(4), Run(0, 4))
        with self.assertRaises(NoRoom):
            space.take(3)
        self.assertEqual(space.take(2), Run(4, 2))

    def test_the_whole_answer_is_given_back(self):
        space = Space(8, "halves")
        run = space.take(3)
        with self.assertRaises(NotTaken):
            space.give_back(Run(0, 3))
        space.give_back(run)
        self.assertEqual(list(space.holes()), [Run(0, 8)])


class Functions(unittest.TestCase):

    def setUp(self):
        self.calls = []

    def holed(self, choose):
        """A space with the holes (1, 2), (5, 3), (10, 2), asked by a function."""
        answers = [0]

        def policy(holes, many):
            self.calls.append((list(holes), many))
            return choose(holes) if answers[0] is None else holes[0]
        space = Space(12, policy)
        for page in range(12):
            space.take(1)
        for first, many in [(1, 2), (5, 3), (10, 2)]:
            for page in range(first, first + many):
                space.give_back(Run(page, 1))
        answers[0] = None
        self.calls.clear()
        return space

    def test_is_called_with_the_holes_and_many(self):
        space = self.holed(lambda holes: holes[-1])
        self.assertEqual(space.take(2), Run(10, 2))
        self.assertEqual(self.calls, [([Run(1, 2), Run(5, 3), Run(10, 2)], 2)])
        self.assertEqual(space.take(1), Run(5, 1))
        self.assertEqual(self.calls[1], ([Run(1, 2), Run(5, 3)], 1))

    def test_only_holes_that_are_great_enough(self):
        space = self.holed(lambda holes: holes[0])
        self.assertEqual(space.take(3), Run(5, 3))
        self.assertEqual(self.calls, [([Run(5, 3)], 3)])

    def test_is_not_called_without_such_a_hole(self):
        space = self.holed(lambda holes: holes[0])
        with self.assertRaises(NoRoom) as caught:
            space.take(4)
        self.assertEqual(caught.exception.many, 4)
        self.assertEqual(self.calls, [])

    def test_an_equal_run_will_do(self):
        space = self.holed(lambda holes: Run(10, 2))
        self.assertEqual(space.take(1), Run(10, 1))

    def test_the_list_may_be_changed(self):
        def spoiled(holes):
            holes.clear()
            holes.append(Run(0, 12))
            return Run(5, 3)
        space = self.holed(spoiled)
        self.assertEqual(space.take(1), Run(5, 1))
        self.assertEqual(list(space.holes()), [Run(1, 2), Run(6, 2), Run(10, 2)])

    def test_what_is_put_into_the_list_is_no_hole(self):
        def spoiled(holes):
            holes[:] = [Run(0, 12)]
            return holes[0]
        space = self.holed(spoiled)
        before = state(space)
        with self.assertRaises(BadPolicy):
            space.take(1)
        self.assertEqual(state(space), before)

    def test_something_else(self):
        wrong = no_runs() + [Run(1, 1), Run(5, 2), Run(6, 2), Run(0, 12), Run(0, 1), (1, 2), [Run(1, 2)]]
        for value in wrong:
            with self.subTest(value=value):
                space = self.holed(lambda holes: value)
                before = state(space)
                with self.assertRaises(BadPolicy):
                    space.take(1)
                self.assertEqual(state(space), before)

    def test_a_hole_that_is_too_small(self):
        space = self.holed(lambda holes: Run(1, 2))
        with self.assertRaises(BadPolicy):
            space.take(3)

    def test_what_it_raises_propagates(self):
        class Own(Exception):
            pass

        def fail(holes):
            raise Own("no")
        space = self.holed(fail)
        before = state(space)
        with self.assertRaises(Own):
            space.take(2)
        self.assertEqual(state(space), before)

    def test_other_callables(self):
        class Chooser:
            def last(self, holes, many):
                return holes[-1]

        self.assertEqual(Space(3, Chooser().last).take(2), Run(0, 2))
        self.assertEqual(Space(3, policy=lambda holes, many: holes[0]).take(3), Run(0, 3))


class GivenBack(unittest.TestCase):

    def bad(self, space, run):
        before = state(space)
        with self.subTest(run=run), self.assertRaises(NotTaken):
            space.give_back(run)
        self.assertEqual(state(space), before)

    def test_any_other_value(self):
        space = Space(8)
        space.take(2)
        space.take(3)
        for run in no_runs() + [(0, 2), [0, 2], [Run(0, 2)]]:
            self.bad(space, run)
        for run in [Run(0, 1), Run(1, 1), Run(0, 5), Run(2, 2), Run(3, 2), Run(5, 3), Run(0, 8), Run(100, 2)]:
            self.bad(space, run)

    def test_an_equal_run(self):
        space = Space(8)
        run = space.take(2)
        space.give_back(Run(0, 2))
        self.bad(space, run)

    def test_twice(self):
        space = Space(8)
        run = space.take(2)
        space.give_back(run)
        self.bad(space, run)
        self.assertEqual(space.take(2), run)
        space.give_back(run)

    def test_nothing_taken(self):
        self.bad(Space(8), Run(0, 8))


class Model:
    """The policies of point 5, page by page."""

    def __init__(self, pages, policy):
        self.free = [True] * pages
        self.policy = policy
        self.mark = 0

    def runs(self, many):
        """The first pages of all runs of so many free pages."""
        return [page for page in range(len(self.free) - many + 1) if all(self.free[page:page + many])]

    def hole(self, page):
        many = 0
        while page + many < len(self.free) and self.free[page + many]:
            many += 1
        return many

    def take(self, many):
        size = many
        if self.policy == "halves":
            while size & (size - 1):
                size += 1
        begins = self.runs(size)
        holes = [page for page in begins if page == 0 or not self.free[page - 1]]
        if self.policy == "halves":
            begins = [page for page in begins if page % size == 0]
        elif self.policy == "next":
            begins = [page for page in begins if page >= self.mark] or begins
        elif self.policy == "best":
            begins = sorted(holes, key=self.hole)
        elif self.policy == "worst":
            begins = sorted(holes, key=lambda page: -self.hole(page))
        if not begins:
            return None
        first = begins[0]
        self.free[first:first + size] = [False] * size
        if self.policy == "next":
            self.mark = first + size
        return Run(first, size)

    def holes(self):
        return [Run(page, self.hole(page)) for page in self.runs(1) if page == 0 or not self.free[page - 1]]


class LikeModel(unittest.TestCase):

    def taken(self, space, many):
        try:
            return space.take(many)
        except NoRoom as error:
            self.assertEqual(error.many, many)
            return None

    def test_many_requests(self):
        dice = random.Random(5)
        for policy in WORDS:
            for pages in (1, 2, 3, 5, 8, 13, 32, 64, 127, 128):
                space, model, runs = Space(pages, policy), Model(pages, policy), []
                for _ in range(120):
                    if runs and dice.random() < 0.48:
                        run = runs.pop(dice.randrange(len(runs)))
                        space.give_back(run)
                        model.free[run.first:run.end] = [True] * run.many
                    else:
                        many = dice.randint(1, max(2, pages // 3))
                        run = self.taken(space, many)
                        self.assertEqual(run, model.take(many))
                        runs += [run] if run else []
                    self.assertEqual(state(space), (model.holes(), sum(model.free), model.mark))


if __name__ == "__main__":
    unittest.main()
