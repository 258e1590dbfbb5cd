"""The errors of the package."""


class WindowError(ValueError):
    """The base of the errors about an argument that is not as described."""


class BadRun(WindowError):
    """This is no run, or no run that may stand here."""


class BadPart(WindowError):
    """This is no run within the run of the mapping."""


class BadWord(WindowError):
    """This is no word of the memory, or of the run."""


class BadDirection(WindowError):
    """This is none of the three directions."""


class BadName(WindowError):
    """This is no string of 1 to 8 letters a to z."""


class BadPolicy(WindowError):
    """This is no policy, or a policy that answered with no such hole."""


class BadPath(WindowError):
    """This is no path of the driver to its first breach."""


class BadSetting(WindowError):
    """An argument of a setting or a book is wrong; `field` is its name."""

    def __init__(self, field):
        super().__init__(f"a wrong value for {field}")
        self.field = field


class BadEvent(WindowError):
    """An event is not valid, or cannot be done; `index` is its place in the list."""

    def __init__(self, index):
        super().__init__(f"a wrong event at index {index}")
        self.index = index


class BadDriver(WindowError):
    """A row of a driver is not valid; `index` is its number, None if this is no driver."""

    def __init__(self, index):
        super().__init__(f"a wrong driver, row {index}")
        self.index = index


# Any value may be passed as a name, so the messages of the next two errors do not show it.
class NoMapping(LookupError):
    """No mapping that is bound is called `name`."""

    def __init__(self, name):
        super().__init__("no mapping of this name is bound")
        self.name = name


class NoDevice(LookupError):
    """The machine has no device that is called `name`."""

    def __init__(self, name):
        super().__init__("there is no device of this name")
        self.name = name


class Busy(RuntimeError):
    """A mapping that is called `name` is bound already."""

    def __init__(self, name):
        super().__init__(f"a mapping is called {name} already")
        self.name = name


class NotTaken(RuntimeError):
    """A run is given back that was not answered, or was given back before."""


class Full(OverflowError):
    """As many mappings are bound as may be: `most`."""

    def __init__(self, most):
        super().__init__(f"at most {most} mappings are bound at once")
        self.most = most


class TooMany(OverflowError):
    """There are more cases to look at than may be: `most`."""

    def __init__(self, most):
        super().__init__(f"there are more than {most}")
        self.most = most


class NoRoom(OverflowError):
    """A space has no hole for the pages asked for: `many`."""

    def __init__(self, many):
        super().__init__(f"no hole for {many} pages")
        self.many = many


class NoTable(OverflowError):
    """There are not enough free tables."""
