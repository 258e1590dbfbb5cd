"""The tables that lead device pages to places."""

# A group has so many pages, and a table so many entries.
GROUP = 4


class Tables:
    """The tables of all devices together, by their numbers.

    An entry is None if it is empty, otherwise a tuple (direction, place).
    """

    def __init__(self, many):
        self._entries = [[None] * GROUP for _ in range(many)]
        self._used = [False] * many

    def unused(self):
        """The ascending list of the free tables."""
        return [number for number, used in enumerate(self._used) if not used]

    def use(self, number):
        """A group has this table from now on."""
        self._used[number] = True

    def release(self, number):
        """No group has this table any more."""
        self._used[number] = False

    def entry(self, number, page):
        """What the table has for this page of any group."""
        return self._entries[number][page % GROUP]

    def fill(self, number, page, entry):
        """Replace the entry for this page."""
        self._entries[number][page % GROUP] = entry

    def is_empty(self, number):
        """Whether all entries of the table are empty."""
        return all([entry is None for entry in self._entries[number]])
