"""Safe loads: point 16."""

import copy
import inspect
import itertools
import unittest

from devicewindows.errors import BadPolicy, NoRoom, WindowError
from devicewindows.loads import safe_load
from devicewindows.spaces import Space
from tests.machines import POLICIES
from tests.values import HUGE, nested, no_integers


class Asked:
    """A space, the runs that are not given back, and how many pages were asked for, by their first pages."""

    def __init__(self, pages, policy):
        self.space = Space(pages, policy)
        self.runs = {}
        self.asked = {}

    def state(self):
        return tuple(sorted(self.asked.items())), self.space.mark

    def load(self):
        return sum(self.asked.values())

    def after(self, step):
        """The space behind the step; this one stays as it is."""
        made = copy.deepcopy(self)
        word, number = step
        if word == "back":
            made.space.give_back(made.runs.pop(number))
            del made.asked[number]
        else:
            run = made.space.take(number)
            made.runs[run.first], made.asked[run.first] = run, number
        return made

    def steps(self, greatest, most):
        takes = [("take", many) for many in range(1, greatest + 1) if self.load() + many <= most]
        return sorted([("back", first) for first in self.runs] + takes)


def explored(pages, policy, greatest, most, longest=None):
    """All states with at most this load, and the first one of the shortest lists of steps that end refused, or None.

    With a longest length all lists up to it are tried; without it, one for each state.
    """
    lists = [([], Asked(pages, policy))]
    seen = {lists[0][1].state(): True}
    for steps, asked in lists:
        for step in asked.steps(greatest, most):
            try:
                made = asked.after(step)
            except NoRoom:
                return sorted(seen), steps + [step]
            if made.state() not in seen or longest is not None and len(steps) < longest:
                seen[made.state()] = True
                lists.append((steps + [step], made))
    return sorted(seen), None


def expected(pages, policy, greatest):
    """The result told once more, by spaces."""
    found = []
    for most in range(pages + 1):
        states, refused = explored(pages, policy, greatest, most)
        if refused is not None:
            return most - 1, found, refused
        found = states
    return pages, found, None


class Loads(unittest.TestCase):

    def test_example(self):
        self.assertEqual(safe_load(3, policy="first", greatest=2), (
            2, [((), 0), (((0, 1),), 0), (((0, 1), (1, 1)), 0), (((0, 2),), 0), (((1, 1),), 0)],
            [("take", 1), ("take", 1), ("back", 0), ("take", 2)]))

    def test_one_page(self):
        for policy in POLICIES:
            marks = [0, 1] if policy == "next" else [0]
            states = [((), mark) for mark in marks] + [(((0, 1),), marks[-1])]
            self.assertEqual(safe_load(1, policy=policy, greatest=1), (1, states, None))

    def test_single_pages_never_meet_a_refusal(self):
        for pages, policy in itertools.product(range(1, 7), POLICIES):
            load, states, refused = safe_load(pages, policy=policy, greatest=1)
            self.assertEqual((load, refused), (pages, None))
            # Any pages may be taken.
            runs = [tuple((page, 1) for page in range(pages) if picked >> page & 1) for picked in range(2 ** pages)]
            self.assertEqual(sorted({state[0] for state in states}), sorted(runs))

    def test_two_pages_at_most(self):
        self.assertEqual([safe_load(pages, policy="first", greatest=2)[0] for pages in range(2, 7)], [2, 2, 3, 3, 4])
        self.assertEqual(safe_load(2, policy="best", greatest=2), (
            2, [((), 0), (((0, 1),), 0), (((0, 1), (1, 1)), 0), (((0, 2),), 0), (((1, 1),), 0)], None))

    def test_marks_of_next(self):
        self.assertEqual(safe_load(2, policy="next", greatest=2), (2, [
            ((), 0), ((), 1), ((), 2), (((0, 1),), 1), (((0, 1),), 2), (((0, 1), (1, 1)), 1), (((0, 1), (1, 1)), 2),
            (((0, 2),), 2), (((1, 1),), 1), (((1, 1),), 2),
        ], None))

    def test_halves_take_more_than_was_asked_for(self):
        # The three pages would need four; one page and two would do, but at even pages only.
        self.assertEqual(safe_load(3, policy="halves", greatest=3), (
            2, [((), 0), (((0, 1),), 0), (((0, 1), (1, 1)), 0), (((0, 2),), 0), (((1, 1),), 0)], [("take", 3)]))
        self.assertEqual(safe_load(3, policy="halves", greatest=2)[::2], (2, [("take", 1), ("take", 2)]))
        load, states, refused = safe_load(4, policy="halves", greatest=4)
        self.assertEqual((load, refused), (3, [("take", 1), ("take", 3)]))
        self.assertIn((((0, 3),), 0), states)
        self.assertNotIn((((0, 4),), 0), states)

    def test_greatest_as_many_as_the_pages(self):
        for policy in POLICIES:
            load, states, refused = safe_load(6, policy=policy, greatest=6)
            self.assertEqual(load, 3 if policy == "halves" else 4)
            self.assertEqual(len(refused), 2 if policy == "halves" else 4)
            self.assertIn(((), 0), states)

    def test_a_request_may_be_as_great_as_the_load(self):
        for policy in ("first", "best", "worst", "next"):
            states = safe_load(4, policy=policy, greatest=4)[1]
            self.assertIn((((0, 3),), 3 if policy == "next" else 0), states)
            self.assertNotIn((((0, 4),), 4 if policy == "next" else 0), states)

    def test_like_spaces(self):
        for pages, policy in itertools.product(range(1, 6), POLICIES):
            for greatest in range(1, pages + 1):
                with self.subTest(pages=pages, policy=policy, greatest=greatest):
                    self.assertEqual(safe_load(pages, policy=policy, greatest=greatest),
                                     expected(pages, policy, greatest))

    def test_like_spaces_of_six_pages(self):
        for policy, greatest in itertools.product(("first", "best", "worst", "halves"), (1, 2, 3, 6)):
            with self.subTest(policy=policy, greatest=greatest):
                self.assertEqual(safe_load(6, policy=policy, greatest=greatest), expected(6, policy, greatest))
        self.assertEqual(safe_load(6, policy="next", greatest=3), expected(6, "next", 3))

    def test_no_refused_steps_before_these(self):
        # Here all lists of steps are tried that are not longer.
        for pages, policy in itertools.product((3, 4), POLICIES):
            for greatest in range(2, pages + 1):
                load, _, refused = safe_load(pages, policy=policy, greatest=greatest)
                found = explored(pages, policy, greatest, load + 1, len(refused))[1]
                self.assertEqual(refused, found)

    def test_refused_steps(self):
        for pages, policy in itertools.product(range(1, 7), POLICIES):
            for greatest in range(1, pages + 1):
                load, _, refused = safe_load(pages, policy=policy, greatest=greatest)
                if refused is None:
                    self.assertEqual(load, pages)
                    continue
                asked = Asked(pages, policy)
                for step in refused[:-1]:
                    asked = asked.after(step)
                    self.assertLessEqual(asked.load(), load + 1)
                word, many = refused[-1]
                self.assertEqual(word, "take")
                self.assertLessEqual(asked.load() + many, load + 1)
                with self.assertRaises(NoRoom):
                    asked.space.take(many)


class Calls(unittest.TestCase):

    def test_wrong_policies(self):
        wrong = [0, 1, HUGE, -HUGE] + no_integers() + ["First", "first ", "", "nearest", ("first",), ["first"],
                                                       tuple(POLICIES), nested(6), Space(1)]
        for policy in wrong:
            with self.assertRaises(BadPolicy):
                safe_load(3, policy=policy, greatest=2)
        self.assertTrue(issubclass(BadPolicy, WindowError))

    def test_functions_are_no_words(self):
        with self.assertRaises(BadPolicy):
            safe_load(3, policy=lambda holes, many: holes[0], greatest=2)

    def test_arguments(self):
        self.assertEqual(str(inspect.signature(safe_load)), "(pages, *, policy, greatest)")
        self.assertEqual(safe_load(greatest=2, policy="best", pages=3), safe_load(3, policy="best", greatest=2))
        with self.assertRaises(TypeError):
            safe_load(3, "first", 2)
        with self.assertRaises(TypeError):
            safe_load(3, policy="first")

    def test_lists_are_new(self):
        for pages, greatest in ((3, 2), (2, 2), (1, 1)):
            first, again = [safe_load(pages, policy="first", greatest=greatest) for _ in range(2)]
            first[1].clear()
            if first[2] is not None:
                first[2].clear()
            self.assertNotEqual(first, again)
            self.assertEqual(safe_load(pages, policy="first", greatest=greatest), again)

    def test_kinds_of_the_results(self):
        result = safe_load(4, policy="next", greatest=3)
        self.assertIsInstance(result, tuple)
        load, states, refused = result
        self.assertEqual([value.__class__ for value in result], [int, list, list])
        for state in states:
            self.assertEqual([value.__class__ for value in state], [tuple, int])
            self.assertIsInstance(state, tuple)
            for run in state[0]:
                self.assertIsInstance(run, tuple)
        self.assertEqual({step.__class__ for step in refused}, {tuple})
        self.assertEqual(states, sorted(states))
        self.assertEqual(len(set(states)), len(states))
        self.assertLessEqual(max(sum(many for _, many in runs) for runs, _ in states), load)


if __name__ == "__main__":
    unittest.main()
