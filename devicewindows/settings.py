"""Books, which tell for which directions a machine does its duties, and settings."""

from devicewindows.errors import BadSetting
from devicewindows.kinds import whole
from devicewindows.spaces import POLICIES

DIRECTIONS = ("to", "from", "both")

# The directions with which a device may read, and with which it may write.
READING = ("to", "both")
WRITING = ("from", "both")

_COPIES = ("none", "ends", "all")


class Book:
    """For each of the five duties, the directions for which the machine does it."""

    def __init__(self, *, cleaned=DIRECTIONS, dropped=WRITING, bind_copied=DIRECTIONS, give_copied=DIRECTIONS,
                 take_copied=WRITING):
        _check([
            ("cleaned", _are_directions(cleaned)),
            ("dropped", _are_directions(dropped)),
            ("bind_copied", _are_directions(bind_copied)),
            ("give_copied", _are_directions(give_copied)),
            ("take_copied", _are_directions(take_copied)),
        ])
        self.cleaned = cleaned
        self.dropped = dropped
        self.bind_copied = bind_copied
        self.give_copied = give_copied
        self.take_copied = take_copied

    def __eq__(self, other):
        return (isinstance(other, Book) and self.cleaned == other.cleaned and self.dropped == other.dropped
                and self.bind_copied == other.bind_copied and self.give_copied == other.give_copied
                and self.take_copied == other.take_copied)

    def __repr__(self):
        fields = [
            ("cleaned", self.cleaned, DIRECTIONS),
            ("dropped", self.dropped, WRITING),
            ("bind_copied", self.bind_copied, DIRECTIONS),
            ("give_copied", self.give_copied, DIRECTIONS),
            ("take_copied", self.take_copied, WRITING),
        ]
        return f"Book({_told(fields)})"


class Setting:
    """How a machine works."""

    def __init__(self, *, copies="none", cached=False, batch=0, early=False, drain=True, policy="first", groups=16,
                 tables=16, book=None):
        _check([
            ("copies", copies in _COPIES),
            ("cached", isinstance(cached, bool)),
            ("batch", whole(batch, 0, 8)),
            ("early", isinstance(early, bool)),
            ("drain", isinstance(drain, bool)),
            ("policy", policy in POLICIES),
            ("groups", whole(groups, 1, 32)),
            ("tables", whole(tables, 1, 32)),
            ("book", book is None or isinstance(book, Book)),
        ])
        self.copies = copies
        self.cached = cached
        self.batch = batch
        self.early = early
        self.drain = drain
        self.policy = policy
        self.groups = groups
        self.tables = tables
        self.book = Book() if book is None else _same_book(book)

    @property
    def safe(self):
        """Whether no device can reach a stray word."""
        return self.drain and (not self.early or self.batch == 0)

    def __eq__(self, other):
        return (isinstance(other, Setting) and self.copies == other.copies and self.cached == other.cached
                and self.batch == other.batch and self.early == other.early and self.drain == other.drain
                and self.policy == other.policy and self.groups == other.groups and self.tables == other.tables
                and self.book == other.book)

    def __repr__(self):
        fields = [
            ("copies", self.copies, "none"),
            ("cached", self.cached, False),
            ("batch", self.batch, 0),
            ("early", self.early, False),
            ("drain", self.drain, True),
            ("policy", self.policy, "first"),
            ("groups", self.groups, 16),
            ("tables", self.tables, 16),
        ]
        # None is no book, so any other than the standard one is told.
        if repr(self.book) != "Book()":
            fields.append(("book", self.book, None))
        return f"Setting({_told(fields)})"


def same_setting(setting):
    """A new setting that equals this one, for whoever may not keep an argument."""
    return Setting(copies=setting.copies, cached=setting.cached, batch=setting.batch, early=setting.early,
                   drain=setting.drain, policy=setting.policy, groups=setting.groups, tables=setting.tables,
                   book=setting.book)


def _same_book(book):
    return Book(cleaned=book.cleaned, dropped=book.dropped, bind_copied=book.bind_copied,
                give_copied=book.give_copied, take_copied=book.take_copied)


def _are_directions(value):
    """Whether any value is a tuple of directions in their order, each at most once."""
    return isinstance(value, tuple) and value == tuple([word for word in DIRECTIONS if word in value])


def _check(fields):
    """The fields are pairs of a name and whether its value is right."""
    for field, right in fields:
        if not right:
            raise BadSetting(field)


def _told(fields):
    """The fields as arguments; they are triples of a name, its value and the default one, which is left out."""
    return ", ".join([f"{field}={value!r}" for field, value, default in fields if value != default])
