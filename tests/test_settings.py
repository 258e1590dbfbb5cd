import inspect
import itertools
import unittest

from devicewindows.errors import BadSetting
from devicewindows.runs import Run
from devicewindows.settings import DIRECTIONS, Book, Setting
from devicewindows.spaces import Space
from tests.values import HUGE, no_integers

DUTIES = ("cleaned", "dropped", "bind_copied", "give_copied", "take_copied")
FIELDS = ("copies", "cached", "batch", "early", "drain", "policy", "groups", "tables", "book")

STANDARD_BOOK = {
    "cleaned": ("to", "from", "both"),
    "dropped": ("from", "both"),
    "bind_copied": ("to", "from", "both"),
    "give_copied": ("to", "from", "both"),
    "take_copied": ("from", "both"),
}

STANDARD = {
    "copies": "none", "cached": False, "batch": 0, "early": False, "drain": True, "policy": "first", "groups": 16,
    "tables": 16, "book": Book(),
}

# Other values that are right.
OTHERS = {
    "copies": ["ends", "all"],
    "cached": [True],
    "batch": [1, 7, 8],
    "early": [True],
    "drain": [False],
    "policy": ["best", "worst", "next", "halves"],
    "groups": [1, 2, 15, 32],
    "tables": [1, 2, 15, 32],
    "book": [Book(cleaned=()), Book(dropped=("to",), take_copied=())],
}

TUPLES = [(), ("to",), ("from",), ("both",), ("to", "from"), ("to", "both"), ("from", "both"), ("to", "from", "both")]


def anything():
    return [0, 1, -1, 2, HUGE, -HUGE, Space(1), Setting(), Book(), ("to", 1), (["to"],)] + no_integers()


class Directions(unittest.TestCase):

    def test_value(self):
        self.assertEqual(DIRECTIONS, ("to", "from", "both"))
        self.assertIsInstance(DIRECTIONS, tuple)


class Books(unittest.TestCase):

    def bad(self, field, **told):
        with self.subTest(told=told):
            with self.assertRaises(BadSetting) as caught:
                Book(**told)
            self.assertEqual(caught.exception.field, field)

    def test_standard(self):
        self.assertEqual(vars(Book()), STANDARD_BOOK)

    def test_all_tuples_for_all_duties(self):
        for duty, value in itertools.product(DUTIES, TUPLES):
            self.assertEqual(vars(Book(**{duty: value})), {**STANDARD_BOOK, duty: value})

    def test_all_at_once(self):
        told = dict(zip(DUTIES, TUPLES[1:6], strict=True))
        self.assertEqual(vars(Book(**told)), told)

    def test_wrong_values(self):
        wrong = [("from", "to"), ("both", "to"), ("both", "from"), ("to", "both", "from"), ("to", "to"), ["to"], [],
                 ("to", "from", "both", "to"), ("To",), ("to ",), "to", "", ("",), (None,), (("to",),), ("to", None)]
        wrong += [value for value in anything() if value != ()]
        for duty in DUTIES:
            for value in wrong:
                self.bad(duty, **{duty: value})

    def test_first_wrong_one(self):
        for place, duty in enumerate(DUTIES):
            self.bad(duty, **{later: None for later in reversed(DUTIES[place:])})

    def test_by_name_only(self):
        with self.assertRaises(TypeError):
            Book(("to",))
        kinds = {row.kind for row in list(inspect.signature(Book).parameters.values())}
        self.assertEqual(kinds, {inspect.Parameter.KEYWORD_ONLY})
        self.assertEqual(tuple(inspect.signature(Book).parameters), DUTIES)

    def test_equal(self):
        self.assertIs(Book() == Book(**STANDARD_BOOK), True)
        self.assertIs(Book() != Book(), False)
        for duty in DUTIES:
            self.assertIs(Book() == Book(**{duty: ("to",)}), False)
            self.assertIs(Book(**{duty: ("to",)}) == Book(**{duty: ("to",)}), True)

    def test_no_other_value_is_equal(self):
        for value in [0, None, "Book()", Setting(), Run(0, 1), STANDARD_BOOK["cleaned"], [Book()]] + no_integers():
            self.assertIs(Book() == value, False)
            self.assertIs(value == Book(), False)

    def test_repr(self):
        self.assertEqual(repr(Book()), "Book()")
        self.assertEqual(repr(Book(**STANDARD_BOOK)), "Book()")
        self.assertEqual(repr(Book(dropped=("from",))), "Book(dropped=('from',))")
        self.assertEqual(
            repr(Book(take_copied=(), give_copied=("to",), bind_copied=(), dropped=("to", "both"), cleaned=("both",))),
            "Book(cleaned=('both',), dropped=('to', 'both'), bind_copied=(), give_copied=('to',), take_copied=())",
        )

    def test_repr_of_each_duty_gives_an_equal_book(self):
        for duty, value in itertools.product(DUTIES, TUPLES):
            book = Book(**{duty: value})
            told = f"{duty}={value!r}" if value != STANDARD_BOOK[duty] else ""
            self.assertEqual(repr(book), f"Book({told})")
            self.assertEqual(eval(repr(book)), book)


class Settings(unittest.TestCase):

    def bad(self, field, **told):
        with self.subTest(told=told):
            with self.assertRaises(BadSetting) as caught:
                Setting(**told)
            self.assertEqual(caught.exception.field, field)

    def test_standard(self):
        self.assertEqual(vars(Setting()), STANDARD)
        for field in ("cached", "early", "drain"):
            self.assertIsInstance(getattr(Setting(), field), bool)

    def test_other_values(self):
        for field in FIELDS:
            for value in OTHERS[field] + [STANDARD[field]]:
                self.assertEqual(vars(Setting(**{field: value})), {**STANDARD, field: value})

    def test_all_at_once(self):
        told = {field: OTHERS[field][-1] for field in FIELDS}
        self.assertEqual(vars(Setting(**told)), told)

    def test_no_book_is_the_standard_book(self):
        self.assertEqual(Setting(book=None).book, Book())

    def test_wrong_values(self):
        right = {
            "copies": lambda value: False,
            "cached": lambda value: isinstance(value, bool),
            "batch": lambda value: not isinstance(value, bool) and value in (0, 1, 2),
            "early": lambda value: isinstance(value, bool),
            "drain": lambda value: isinstance(value, bool),
            "policy": lambda value: False,
            "groups": lambda value: not isinstance(value, bool) and value in (1, 2),
            "tables": lambda value: not isinstance(value, bool) and value in (1, 2),
            "book": lambda value: value is None or isinstance(value, Book),
        }
        for field in FIELDS:
            for value in anything():
                if not right[field](value):
                    self.bad(field, **{field: value})

    def test_beside_the_limits(self):
        for field, values in {"batch": (-1, 9, "8"), "groups": (0, 33, -4), "tables": (0, 33, -1),
                              "copies": ("None", "end", "", None, "none "), "cached": (0, 1, None), "early": (0, 1),
                              "drain": (0, 1, "True"), "book": (True, Setting(), (), "Book()"),
                              "policy": ("Best", "half", None, ["first"], ("first",))}.items():
            for value in values:
                self.bad(field, **{field: value})

    def test_first_wrong_one(self):
        for place, field in enumerate(FIELDS):
            self.bad(field, **{later: "?" for later in reversed(FIELDS[place:])})

    def test_by_name_only(self):
        with self.assertRaises(TypeError):
            Setting("none")
        kinds = {row.kind for row in list(inspect.signature(Setting).parameters.values())}
        self.assertEqual(kinds, {inspect.Parameter.KEYWORD_ONLY})
        self.assertEqual(tuple(inspect.signature(Setting).parameters), FIELDS)

    def test_equal(self):
        self.assertIs(Setting() == Setting(book=Book()), True)
        self.assertIs(Setting() != Setting(), False)
        for field in FIELDS:
            for value in OTHERS[field]:
                self.assertIs(Setting() == Setting(**{field: value}), False)
                self.assertIs(Setting(**{field: value}) == Setting(**{field: value}), True)

    def test_no_other_value_is_equal(self):
        for value in [0, None, "Setting()", Book(), Run(0, 1), [Setting()]] + no_integers():
            self.assertIs(Setting() == value, False)
            self.assertIs(value == Setting(), False)

    def test_repr(self):
        self.assertEqual(repr(Setting()), "Setting()")
        self.assertEqual(repr(Setting(cached=True, book=Book(dropped=("from",)))),
                         "Setting(cached=True, book=Book(dropped=('from',)))")
        told = {field: OTHERS[field][0] for field in reversed(FIELDS)}
        self.assertEqual(
            repr(Setting(**told)),
            "Setting(copies='ends', cached=True, batch=1, early=True, drain=False, policy='best', groups=1, tables=1,"
            " book=Book(cleaned=()))",
        )

    def test_repr_of_each_field_gives_an_equal_setting(self):
        for field in FIELDS:
            for value in OTHERS[field]:
                self.assertEqual(repr(Setting(**{field: value})), f"Setting({field}={value!r})")
                self.assertEqual(eval(repr(Setting(**{field: value}))), Setting(**{field: value}))
            self.assertEqual(repr(Setting(**{field: STANDARD[field]})), "Setting()")

    def test_safe(self):
        for drain, early, batch in itertools.product((True, False), (True, False), range(9)):
            with self.subTest(drain=drain, early=early, batch=batch):
                setting = Setting(drain=drain, early=early, batch=batch)
                self.assertIs(setting.safe, drain and (not early or batch == 0))
        self.assertIsInstance(vars(Setting)["safe"], property)

    def test_nothing_else_makes_it_unsafe(self):
        for field in ("copies", "cached", "policy", "groups", "tables", "book"):
            for value in OTHERS[field]:
                self.assertIs(Setting(**{field: value}).safe, True)

    def test_the_book_is_not_kept(self):
        book = Book()
        setting = Setting(book=book)
        book.cleaned = ()
        self.assertEqual(setting.book, Book())
        self.assertEqual(Setting(), setting)

    def test_two_settings_share_no_book(self):
        self.assertIsNot(Setting().book, Setting().book)


if __name__ == "__main__":
    unittest.main()
