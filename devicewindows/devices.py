"""Devices: their spaces, what they keep, and their writes that land late."""

from devicewindows.errors import NoTable
from devicewindows.runs import Run
from devicewindows.settings import READING, WRITING
from devicewindows.spaces import Space
from devicewindows.tables import GROUP


class Device:
    """A device with a space of its own; it shares the tables with all other ones."""

    def __init__(self, setting, tables):
        self.space = Space(GROUP * setting.groups, setting.policy)
        self._tables = tables
        # The number of the table of each group, None if it has none.
        self._table_of = [None] * setting.groups
        self._kept_tables = {}
        self._kept_entries = {}
        # The writes under way as tuples (place, offset, value), the oldest one first.
        self._writes = []

    def reserve(self, many):
        """Take a run of the space; the groups of its first `many` pages have tables then."""
        run = self.space.choose(many)
        groups = range(run.first // GROUP, (run.first + many - 1) // GROUP + 1)
        lacking = [group for group in groups if self._table_of[group] is None]
        unused = self._tables.unused()
        if len(lacking) > len(unused):
            raise NoTable("there are not enough free tables")
        self.space.occupy(run)
        for group, number in zip(lacking, unused):
            self._tables.use(number)
            self._table_of[group] = number
        return run

    def lead(self, first, direction, places):
        """Fill the entries of the pages from first on, one for each place."""
        for page, place in enumerate(places, start=first):
            self._tables.fill(self._table_of[page // GROUP], page, (direction, place))

    def close(self, pages, early):
        """Empty the entries of a run of pages; if early, groups without a mapping lose their tables at once."""
        for page in pages.words():
            self._tables.fill(self._table_of[page // GROUP], page, None)
        if early:
            for page in pages.words():
                self._release(page // GROUP)

    def forget(self):
        """Forget all that was kept; groups without a mapping lose their tables."""
        self._kept_tables = {}
        self._kept_entries = {}
        for group in range(len(self._table_of)):
            self._release(group)

    def _release(self, group):
        # Bound mappings fill entries in each of their groups, so an empty table is one that waits.
        number = self._table_of[group]
        if number is not None and self._tables.is_empty(number):
            self._table_of[group] = None
            self._tables.release(number)

    def reach(self, address, directions):
        """The place that an access at the address leads to, None if there is a fault."""
        page = address // Run.PAGE
        if page >= GROUP * len(self._table_of):
            return None
        self._keep(page)
        entry = self._entry(page)
        if entry is None or entry[0] not in directions:
            return None
        return entry[1]

    def _keep(self, page):
        """Keep what is found on the way to the entry of a page."""
        number = self._table(page)
        if page not in self._kept_entries and number is not None:
            self._kept_tables[page // GROUP] = number
            entry = self._tables.entry(number, page)
            if entry is not None:
                self._kept_entries[page] = entry

    def _table(self, page):
        """The table that is used for the page now, None if there is none."""
        group = page // GROUP
        return self._kept_tables.get(group, self._table_of[group])

    def _entry(self, page):
        """The entry that is used for the page now, None if there is none."""
        if page in self._kept_entries:
            return self._kept_entries[page]
        number = self._table(page)
        if number is None:
            return None
        return self._tables.entry(number, page)

    def send(self, place, offset, value):
        """A write to the place is under way."""
        self._writes.append((place, offset, value))

    def sent(self):
        """The number of writes under way."""
        return len(self._writes)

    def land(self):
        """The oldest write lands, if there is any."""
        if self._writes:
            place, offset, value = self._writes.pop(0)
            place.write(offset, value)

    def land_all(self):
        """All writes land, in their order."""
        while self._writes:
            self.land()

    def sight(self):
        """The words that the device can reach now: two ascending lists, for reading and for writing."""
        reading = []
        writing = [place.word(offset) for place, offset, _ in self._writes if place.word(offset) in place.seen]
        for page in range(GROUP * len(self._table_of)):
            entry = self._entry(page)
            if entry is not None:
                direction, place = entry
                if direction in READING:
                    reading.extend(list(place.seen.words()))
                if direction in WRITING:
                    writing.extend(list(place.seen.words()))
        return sorted(set(reading)), sorted(set(writing))
