import unittest

from devicewindows import errors
from devicewindows.errors import (
    BadDirection, BadDriver, BadEvent, BadName, BadPart, BadPath, BadPolicy, BadRun, BadSetting, BadWord, Busy, Full,
    NoDevice, NoMapping, NoRoom, NoTable, NotTaken, TooMany, WindowError,
)
from tests.values import HUGE, no_integers

# Each error of the document with its only base.
BASES = {
    WindowError: ValueError,
    BadRun: WindowError,
    BadPart: WindowError,
    BadWord: WindowError,
    BadDirection: WindowError,
    BadName: WindowError,
    BadPolicy: WindowError,
    BadPath: WindowError,
    BadSetting: WindowError,
    BadEvent: WindowError,
    BadDriver: WindowError,
    NoMapping: LookupError,
    NoDevice: LookupError,
    Busy: RuntimeError,
    NotTaken: RuntimeError,
    Full: OverflowError,
    TooMany: OverflowError,
    NoRoom: OverflowError,
    NoTable: OverflowError,
}

ATTRIBUTES = {
    BadSetting: "field",
    BadEvent: "index",
    BadDriver: "index",
    NoMapping: "name",
    NoDevice: "name",
    Busy: "name",
    Full: "most",
    TooMany: "most",
    NoRoom: "many",
}

SAMPLES = {
    "field": ["copies", "cleaned"],
    "index": [0, 399],
    "name": ["m", "a"],
    "most": [4, 4000],
    "many": [1, 128],
}


class Bases(unittest.TestCase):

    def test_bases(self):
        for error, base in BASES.items():
            with self.subTest(error=error.__name__):
                self.assertEqual(error.__bases__, (base,))

    def test_none_is_a_subclass_of_another(self):
        for error in BASES:
            for other in BASES:
                if error != other and other != WindowError:
                    with self.subTest(error=error.__name__, other=other.__name__):
                        self.assertFalse(issubclass(error, other))

    def test_only_arguments_are_window_errors(self):
        for error in BASES:
            with self.subTest(error=error.__name__):
                self.assertEqual(issubclass(error, WindowError), error.__name__.startswith("Bad") or error == WindowError)

    def test_all_are_defined_in_this_file(self):
        defined = [value for value in vars(errors).values() if isinstance(value, type)]
        self.assertCountEqual(defined, list(BASES))
        self.assertEqual({error.__module__ for error in BASES}, {"devicewindows.errors"})
        for error in BASES:
            self.assertEqual(getattr(errors, error.__name__), error)


class Attributes(unittest.TestCase):

    def test_by_position(self):
        for error, attribute in ATTRIBUTES.items():
            for value in SAMPLES[attribute]:
                with self.subTest(error=error.__name__, value=value):
                    self.assertEqual(vars(error(value)), {attribute: value})

    def test_by_name(self):
        for error, attribute in ATTRIBUTES.items():
            for value in SAMPLES[attribute]:
                with self.subTest(error=error.__name__, value=value):
                    self.assertEqual(vars(error(**{attribute: value})), {attribute: value})

    def test_raised_and_caught_by_the_base(self):
        for error, attribute in ATTRIBUTES.items():
            value = SAMPLES[attribute][0]
            with self.subTest(error=error.__name__):
                with self.assertRaises(BASES[error]) as caught:
                    raise error(value)
                self.assertEqual(getattr(caught.exception, attribute), value)
                self.assertIsInstance(str(caught.exception), str)

    def test_driver_without_index(self):
        self.assertIsNone(BadDriver(None).index)

    def test_missing_mappings_and_devices_keep_the_argument_itself(self):
        for error in (NoMapping, NoDevice):
            for name in [0, -1, HUGE, -HUGE] + no_integers():
                with self.subTest(error=error.__name__, name=name):
                    made = error(name)
                    self.assertIs(made.name, name)
                    self.assertIsInstance(str(made), str)

    def test_two_errors_share_nothing(self):
        one, other = NoMapping("m"), NoMapping("n")
        self.assertEqual((one.name, other.name), ("m", "n"))

    def test_errors_without_attribute_take_a_message(self):
        for error in BASES:
            if error not in ATTRIBUTES:
                with self.subTest(error=error.__name__):
                    self.assertEqual(str(error("no")), "no")
                    self.assertEqual(vars(error("no")), {})


if __name__ == "__main__":
    unittest.main()
