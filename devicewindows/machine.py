"""The machine: a processor and devices that share buffers in memory."""

from devicewindows.devices import Device
from devicewindows.errors import (
    BadDirection, BadName, BadPart, BadRun, BadWord, Busy, Full, NoDevice, NoMapping, NoRoom, NoTable,
)
from devicewindows.kinds import is_name, whole
from devicewindows.lines import Lines
from devicewindows.mappings import LONGEST, MOST_BOUND, Mapping
from devicewindows.places import Place
from devicewindows.runs import Run
from devicewindows.settings import DIRECTIONS, READING, WRITING, Setting, same_setting
from devicewindows.tables import Tables


class Machine:
    """A memory of some pages, and devices; within `with machine:` no flush happens because of the batch."""

    def __init__(self, pages, devices, setting=None):
        self._setting = Setting() if setting is None else same_setting(setting)
        self._memory = [0] * (Run.PAGE * pages)
        # Without the cache no line is ever loaded, so that the other steps with lines do nothing.
        self._lines = Lines(self._memory)
        tables = Tables(self._setting.tables)
        self._devices = {name: Device(self._setting, tables) for name in devices}
        self._mappings = {}
        # Mappings that are gone, as long as their runs wait for a flush; the oldest one first.
        self._gone = []
        self._calm = False

    def __enter__(self):
        self._calm = True
        return self

    def __exit__(self, kind, value, trace):
        self._calm = False

    # The driver's deeds.

    def bind(self, name, device, run, direction):
        """Make a mapping; the device owns all its words."""
        self._check_bind(name, device, run, direction)
        answer = self._reserve(self._devices[device], run.touched_pages().many)
        run = Run(run.first, run.many)
        pages = run.touched_pages()
        places = [self._new_place(run, page) for page in pages.words()]
        mapping = Mapping(device, run, direction, answer, places)
        for word in run.words():
            self._hand_over(mapping, word, self._setting.book.bind_copied)
        self._devices[device].lead(answer.first, direction, places)
        self._mappings[name] = mapping

    def unbind(self, name):
        """Take the whole run; the mapping is gone, and its pages wait for a flush."""
        self.take(name)
        mapping = self._mappings.pop(name)
        self._devices[mapping.device].close(mapping.pages(), self._setting.early and not self._calm)
        self._gone.append(mapping)
        if len(self._gone) > self._setting.batch and not self._calm:
            self.flush()

    def give(self, name, part=None):
        """Hand a part of the run to the device."""
        mapping = self._mapping(name)
        part = _part(mapping, part)
        for word in part.words():
            if not mapping.owns(word):
                self._hand_over(mapping, word, self._setting.book.give_copied)
                mapping.hand(word, True)

    def take(self, name, part=None):
        """Hand a part of the run to the processor."""
        mapping = self._mapping(name)
        part = _part(mapping, part)
        if self._setting.drain:
            self._devices[mapping.device].land_all()
        for word in part.words():
            if mapping.owns(word):
                self._take_back(mapping, word)
                mapping.hand(word, False)

    def flush(self):
        """Devices forget what they kept; what waits is free again."""
        if self._setting.drain:
            for device in self._devices.values():
                device.land_all()
        for mapping in self._gone:
            self._devices[mapping.device].space.give_back(mapping.answer)
        self._gone = []
        for device in self._devices.values():
            device.forget()

    # What the processor and its cache do.

    def read(self, word):
        """The value of a word, as the processor sees it."""
        self._check_word(word)
        if self._setting.cached:
            return self._lines.read(word)
        return self._memory[word]

    def write(self, word, value):
        """The processor writes a word."""
        self._check_word(word)
        if self._setting.cached:
            self._lines.write(word, value)
        else:
            self._memory[word] = value

    def load(self, line):
        """The cache happens to load a line."""
        if self._setting.cached:
            self._lines.load(line)

    def evict(self, line):
        """The cache happens to evict a line."""
        self._lines.evict(line)

    # What the devices do.

    def land(self, device):
        """The oldest write of the device that is under way lands, if there is any."""
        self._device(device).land()

    def peek(self, device, address):
        """The value that the device reads at the address, None if there is a fault."""
        found = self._device(device)
        found.land_all()
        place = found.reach(address, READING)
        if place is None:
            return None
        return place.read(address % Run.PAGE)

    def poke(self, device, address, value):
        """The device writes at the address, and the write is under way; False if there is a fault."""
        found = self._device(device)
        place = found.reach(address, WRITING)
        if place is None:
            return False
        found.send(place, address % Run.PAGE, value)
        return True

    def fetch(self, name, word):
        """The mapping's device reads a word of the run."""
        return self.peek(self._mapping(name).device, self.address(name, word))

    def store(self, name, word, value):
        """The mapping's device writes a word of the run."""
        return self.poke(self._mapping(name).device, self.address(name, word), value)

    # What can be asked.

    @property
    def held(self):
        """The ascending tuple of (line, whether it is dirty) of the lines that the cache holds."""
        return self._lines.held

    def address(self, name, word):
        """The address at which the mapping's device finds a word of the run."""
        mapping = self._mapping(name)
        if word not in mapping.run:
            raise BadWord("this is no word of the run")
        return mapping.address(word)

    def owners(self):
        """The ascending tuple of (name, device, first, many, direction, marks) of all bound mappings."""
        rows = []
        for name in sorted(self._mappings):
            mapping = self._mappings[name]
            run = mapping.run
            rows.append((name, mapping.device, run.first, run.many, mapping.direction, mapping.marks()))
        return tuple(rows)

    def memory(self):
        """All words, as they are in memory."""
        return list(self._memory)

    def holes(self, device):
        """The list of the holes of the device's space."""
        return self._device(device).space.holes()

    def waiting(self):
        """The list of (device, run) of the runs that wait for a flush, the oldest one first."""
        return [(mapping.device, mapping.answer) for mapping in self._gone]

    def under_way(self, device):
        """The number of the device's writes that are under way."""
        return self._device(device).sent()

    def sight(self, device):
        """The words that the device can reach now: a list for reading, and one for writing."""
        return self._device(device).sight()

    def strays(self, device):
        """The words in sight, for reading and for writing, that no mapping lets the device reach."""
        reading, writing = self._device(device).sight()
        return self._unmapped(device, reading, READING), self._unmapped(device, writing, WRITING)

    # How the deeds are done.

    def _reserve(self, device, many):
        # What waits may be what is lacking, so a flush is worth a try. A table never waits without a run.
        if self._gone:
            try:
                return device.reserve(many)
            except (NoRoom, NoTable):
                self.flush()
        return device.reserve(many)

    def _new_place(self, run, page):
        """Where a new mapping of the run leads the device for the page."""
        copies = self._setting.copies
        inside = run & Run.of_page(page)
        if copies == "all" or copies == "ends" and inside.many < Run.PAGE:
            return Place.of_copy(page, inside)
        return Place.of_memory(self._memory, page)

    def _hand_over(self, mapping, word, copied):
        """The device is to find the word's value; copied tells for which directions a copy is filled."""
        place = mapping.place(word)
        if not place.copied:
            if mapping.direction in self._setting.book.cleaned:
                self._lines.clean(word // Run.LINE)
        elif mapping.direction in copied:
            place.write(word % Run.PAGE, self.read(word))

    def _take_back(self, mapping, word):
        """The processor is to find the word's value."""
        place = mapping.place(word)
        if not place.copied:
            if mapping.direction in self._setting.book.dropped:
                self._lines.drop(word // Run.LINE)
        elif mapping.direction in self._setting.book.take_copied:
            self._lines.evict(word // Run.LINE)
            self._memory[word] = place.read(word % Run.PAGE)

    def _unmapped(self, device, found, directions):
        """Those of the words that no mapping of the device, bound or waiting, touches with such a direction."""
        mappings = [mapping for mapping in list(self._mappings.values()) + self._gone
                    if mapping.device == device and mapping.direction in directions]
        return [word for word in found if not any([mapping.touches(word) for mapping in mappings])]

    # What arguments may be.

    def _check_bind(self, name, device, run, direction):
        if not is_name(name):
            raise BadName("a name has 1 to 8 letters a to z")
        if name in self._mappings:
            raise Busy(name)
        self._device(device)
        if not isinstance(run, Run) or run.many > LONGEST or run.end > len(self._memory):
            raise BadRun("a mapping has a run of at most 16 words in memory")
        if direction not in DIRECTIONS:
            raise BadDirection("a direction is to, from or both")
        if len(self._mappings) >= MOST_BOUND:
            raise Full(MOST_BOUND)

    def _check_word(self, word):
        if not whole(word, 0, len(self._memory) - 1):
            raise BadWord("this is no word of the memory")

    def _mapping(self, name):
        if not isinstance(name, str) or name not in self._mappings:
            raise NoMapping(name)
        return self._mappings[name]

    def _device(self, name):
        if not isinstance(name, str) or name not in self._devices:
            raise NoDevice(name)
        return self._devices[name]


def _part(mapping, part):
    """The run that the part means: all of the mapping's run for None."""
    if part is None:
        return mapping.run
    if not isinstance(part, Run) or part.first < mapping.run.first or part.end > mapping.run.end:
        raise BadPart("this is no part of the run")
    return part
