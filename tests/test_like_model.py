import random
import unittest

from devicewindows.errors import BadRun, Busy, Full, NoRoom, NoTable
from devicewindows.machine import Machine
from tests.machines import do, some_book, some_event, some_setting, state
from tests.model import ModelMachine, Refused


class LikeModel(unittest.TestCase):
    """Long rows of any deeds, on machines with few pages and tables, have the results that the model tells."""

    def step(self, machine, model, event, words):
        expected = None
        if event[0] == "bind":
            # Errors about the arguments come first and change nothing; the model knows only of the other two.
            _, name, _, first, many, _ = event
            expected = (Busy if name in model.bound else BadRun if first + many > words
                        else Full if len(model.bound) == 4 else None)
        result = error = None
        try:
            result = do(machine, event)
        except (Busy, BadRun, Full, NoRoom, NoTable) as caught:
            error = caught
        if expected is not None:
            self.assertIsInstance(error, expected)
            return
        try:
            wanted = getattr(model, event[0])(*event[1:])
        except Refused as refused:
            self.assertIsInstance(error, {"room": NoRoom, "table": NoTable}[str(refused)])
            if isinstance(error, NoRoom):
                self.assertEqual(error.many, (event[3] + event[4] - 1) // 4 - event[3] // 4 + 1)
        else:
            self.assertIsNone(error)
            self.assertEqual(result, wanted)
            self.assertIs(isinstance(result, bool), isinstance(wanted, bool))

    def row_of_deeds(self, dice, setting, pages, devices, length):
        machine = Machine(pages, devices, setting)
        model = ModelMachine(pages, devices, setting)
        addresses = 16 * setting.groups + 3
        done = []
        for _ in range(length):
            if dice.random() < 0.04:
                model.calm = not model.calm
                if model.calm:
                    self.assertIs(machine.__enter__(), machine)
                else:
                    self.assertFalse(machine.__exit__(None, None, None))
            event = some_event(dice, model.owners(), pages, devices, addresses)
            done.append((model.calm, event))
            with self.subTest(setting=setting, pages=pages, devices=devices, done=done):
                self.step(machine, model, event, 4 * pages)
                self.assertEqual(state(machine, devices), model.state())
            for name, device, first, many, _, _ in model.owners():
                for word in (first, first + many - 1):
                    self.assertEqual(machine.address(name, word), model.address(name, word))

    def test_any_settings(self):
        dice = random.Random(71)
        for _ in range(220):
            setting = some_setting(dice)
            devices = dice.choice([["a"], ["b", "a"], ["a", "b", "c"]])
            self.row_of_deeds(dice, setting, dice.choice([1, 2, 4, 5]), devices, 60)

    def test_any_books(self):
        dice = random.Random(72)
        for _ in range(120):
            setting = some_setting(dice, book=some_book(dice), cached=dice.random() < 0.9)
            self.row_of_deeds(dice, setting, dice.choice([1, 2, 3]), ["a", "b"], 50)

    def test_one_group_and_one_table(self):
        dice = random.Random(73)
        for _ in range(60):
            setting = some_setting(dice, groups=1, tables=1)
            self.row_of_deeds(dice, setting, 4, ["a", "b"], 50)

    def test_many_groups_and_few_tables(self):
        dice = random.Random(74)
        for _ in range(30):
            setting = some_setting(dice, groups=dice.choice([5, 8]), tables=dice.choice([1, 2, 3, 5]), policy="next")
            self.row_of_deeds(dice, setting, 16, ("a", "b", "c"), 50)


if __name__ == "__main__":
    unittest.main()
