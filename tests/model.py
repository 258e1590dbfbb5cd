"""The machine of the points 4 to 9 and 15 told once more, plainly and slowly, to compare the program with it."""

from devicewindows.runs import Run

WRITES = ("from", "both")
READS = ("to", "both")


class Refused(Exception):
    """No room, or no table."""


class Gone:
    """A copy: four words of its own."""

    def __init__(self, page, run):
        self.words = [0, 0, 0, 0]
        self.page = page
        self.run = run


class ModelMachine:

    def __init__(self, pages, devices, setting):
        self.setting = setting
        self.words = [0] * (4 * pages)
        self.cache = {}
        self.devices = list(devices)
        self.taken = {device: {} for device in devices}
        self.mark = {device: 0 for device in devices}
        self.table = {}
        self.kept_table = {}
        self.kept_entry = {}
        self.flying = {device: [] for device in devices}
        self.tables = [[None] * 4 for _ in range(setting.tables)]
        self.bound = {}
        self.waiting_runs = []
        self.waiting_groups = []
        self.calm = False

    # Lines: a line is [value, value, dirty].

    def load(self, line):
        if self.setting.cached and line not in self.cache:
            self.cache[line] = [self.words[2 * line], self.words[2 * line + 1], False]

    def clean(self, line):
        if line in self.cache and self.cache[line][2]:
            self.words[2 * line:2 * line + 2] = self.cache[line][:2]
            self.cache[line][2] = False

    def evict(self, line):
        self.clean(line)
        self.cache.pop(line, None)

    def read(self, word):
        if not self.setting.cached:
            return self.words[word]
        self.load(word // 2)
        return self.cache[word // 2][word % 2]

    def write(self, word, value):
        if not self.setting.cached:
            self.words[word] = value
            return
        self.load(word // 2)
        self.cache[word // 2][word % 2] = value
        self.cache[word // 2][2] = True

    # The space.

    def free_pages(self, device):
        taken = [page for first, many in self.taken[device].items() for page in range(first, first + many)]
        return [page for page in range(4 * self.setting.groups) if page not in taken]

    def holes(self, device):
        free = self.free_pages(device)
        found = []
        for page in free:
            if page - 1 not in free:
                many = 1
                while page + many in free:
                    many += 1
                found.append((page, many))
        return found

    def answer(self, device, many):
        free = self.free_pages(device)
        holes = [hole for hole in self.holes(device) if hole[1] >= many]
        policy = self.setting.policy
        if policy == "halves":
            size = 1
            while size < many:
                size += size
            starts = [page for page in range(0, 4 * self.setting.groups, size)
                      if all(page + step in free for step in range(size))]
            return (starts[0], size) if starts else None
        if policy == "next":
            starts = [page for page in free if all(page + step in free for step in range(many))]
            later = [page for page in starts if page >= self.mark[device]]
            starts = later or starts
            return (starts[0], many) if starts else None
        sort = {"first": lambda hole: hole[0], "best": lambda hole: (hole[1], hole[0]),
                "worst": lambda hole: (-hole[1], hole[0])}[policy]
        return (min(holes, key=sort)[0], many) if holes else None

    # Deeds.

    def request(self, device, many):
        answer = self.answer(device, many)
        if answer is None:
            raise Refused("room")
        groups = sorted({page // 4 for page in range(answer[0], answer[0] + many)})
        lacking = [group for group in groups if (device, group) not in self.table]
        free = [number for number in range(self.setting.tables) if number not in self.table.values()]
        if len(free) < len(lacking):
            raise Refused("table")
        self.taken[device][answer[0]] = answer[1]
        self.mark[device] = sum(answer)
        for group, number in zip(lacking, free):
            self.table[device, group] = number
            self.tables[number] = [None] * 4
        for group in groups:
            if (device, group) in self.waiting_groups:
                self.waiting_groups.remove((device, group))
        return answer

    def bind(self, name, device, first, many, direction):
        pages = list(range(first // 4, (first + many - 1) // 4 + 1))
        try:
            answer = self.request(device, len(pages))
        except Refused:
            if not self.waiting_runs and not self.waiting_groups:
                raise
            self.flush()
            answer = self.request(device, len(pages))
        run = range(first, first + many)
        places = {}
        for page in pages:
            inside = [word for word in range(4 * page, 4 * page + 4) if word in run]
            copied = {"none": False, "all": True, "ends": len(inside) < 4}[self.setting.copies]
            places[page] = Gone(page, inside) if copied else page
        for word in run:
            place = places[word // 4]
            if isinstance(place, int):
                if direction in self.setting.book.cleaned:
                    self.clean(word // 2)
            elif direction in self.setting.book.bind_copied:
                place.words[word % 4] = self.read(word)
        for step, page in enumerate(pages):
            at = answer[0] + step
            self.tables[self.table[device, at // 4]][at % 4] = (direction, places[page])
        self.bound[name] = {
            "device": device, "first": first, "many": many, "direction": direction, "answer": answer,
            "pages": [answer[0] + step for step in range(len(pages))], "places": places,
            "owner": {word: "d" for word in run},
        }

    def give(self, name, first, many):
        mapping = self.bound[name]
        for word in range(first, first + many):
            if mapping["owner"][word] == "p":
                place = mapping["places"][word // 4]
                if isinstance(place, int):
                    if mapping["direction"] in self.setting.book.cleaned:
                        self.clean(word // 2)
                elif mapping["direction"] in self.setting.book.give_copied:
                    place.words[word % 4] = self.read(word)
                mapping["owner"][word] = "d"

    def take(self, name, first, many):
        mapping = self.bound[name]
        if self.setting.drain:
            self.land_all(mapping["device"])
        for word in range(first, first + many):
            if mapping["owner"][word] == "d":
                place = mapping["places"][word // 4]
                if isinstance(place, int):
                    if mapping["direction"] in self.setting.book.dropped:
                        self.cache.pop(word // 2, None)
                elif mapping["direction"] in self.setting.book.take_copied:
                    self.evict(word // 2)
                    self.words[word] = place.words[word % 4]
                mapping["owner"][word] = "p"

    def unbind(self, name):
        self.take(name, self.bound[name]["first"], self.bound[name]["many"])
        mapping = self.bound.pop(name)
        device = mapping["device"]
        for page in mapping["pages"]:
            self.tables[self.table[device, page // 4]][page % 4] = None
        self.waiting_runs.append((device, mapping["answer"], mapping))
        others = {page // 4 for other in self.bound.values() if other["device"] == device for page in other["pages"]}
        for group in sorted({page // 4 for page in mapping["pages"]} - others):
            if self.setting.early and not self.calm:
                del self.table[device, group]
                if (device, group) in self.waiting_groups:
                    self.waiting_groups.remove((device, group))
            else:
                self.waiting_groups.append((device, group))
        if not self.calm and len(self.waiting_runs) > self.setting.batch:
            self.flush()

    def flush(self):
        if self.setting.drain:
            for device in self.devices:
                self.land_all(device)
        self.kept_table = {}
        self.kept_entry = {}
        for device, answer, _ in self.waiting_runs:
            del self.taken[device][answer[0]]
        for key in self.waiting_groups:
            del self.table[key]
        self.waiting_runs = []
        self.waiting_groups = []

    # Devices.

    def land(self, device):
        if self.flying[device]:
            place, offset, value = self.flying[device].pop(0)
            if isinstance(place, int):
                self.words[4 * place + offset] = value
            else:
                place.words[offset] = value

    def land_all(self, device):
        while self.flying[device]:
            self.land(device)

    def translated(self, device, address, directions):
        page = address // 4
        group = page // 4
        if group >= self.setting.groups:
            return None
        if (device, page) not in self.kept_entry:
            if (device, group) not in self.kept_table:
                if (device, group) not in self.table:
                    return None
                self.kept_table[device, group] = self.table[device, group]
            entry = self.tables[self.kept_table[device, group]][page % 4]
            if entry is None:
                return None
            self.kept_entry[device, page] = entry
        direction, place = self.kept_entry[device, page]
        return (place, address % 4) if direction in directions else None

    def peek(self, device, address):
        self.land_all(device)
        found = self.translated(device, address, READS)
        if found is None:
            return None
        place, offset = found
        return self.words[4 * place + offset] if isinstance(place, int) else place.words[offset]

    def poke(self, device, address, value):
        found = self.translated(device, address, WRITES)
        if found is None:
            return False
        self.flying[device].append((*found, value))
        return True

    def address(self, name, word):
        mapping = self.bound[name]
        return 4 * mapping["answer"][0] + word - 4 * (mapping["first"] // 4)

    def fetch(self, name, word):
        return self.peek(self.bound[name]["device"], self.address(name, word))

    def store(self, name, word, value):
        return self.poke(self.bound[name]["device"], self.address(name, word), value)

    # What can be asked.

    def meant(self, place, offset):
        """The words of memory, one or none, that are reached there."""
        if isinstance(place, int):
            return [4 * place + offset]
        return [word for word in place.run if word == 4 * place.page + offset]

    def sight(self, device):
        found = []
        for directions in (READS, WRITES):
            words = []
            for page in range(4 * self.setting.groups):
                for offset in range(4):
                    kept = dict(self.kept_table), dict(self.kept_entry)
                    reached = self.translated(device, 4 * page + offset, directions)
                    self.kept_table, self.kept_entry = kept
                    if reached:
                        words += self.meant(*reached)
            found.append(words)
        for place, offset, _ in self.flying[device]:
            found[1] += self.meant(place, offset)
        return tuple(sorted(set(words)) for words in found)

    def strays(self, device):
        rows = list(self.bound.values()) + [mapping for _, _, mapping in self.waiting_runs]
        found = []
        for words, directions in zip(self.sight(device), (READS, WRITES)):
            pages = {word // 4 for row in rows if row["device"] == device and row["direction"] in directions
                     for word in range(row["first"], row["first"] + row["many"])}
            found.append([word for word in words if word // 4 not in pages])
        return tuple(found)

    def owners(self):
        return tuple(sorted(
            (name, row["device"], row["first"], row["many"], row["direction"],
             "".join(row["owner"][word] for word in sorted(row["owner"])))
            for name, row in self.bound.items()
        ))

    def state(self):
        return {
            "memory": list(self.words),
            "held": tuple((line, self.cache[line][2]) for line in sorted(self.cache)),
            "owners": self.owners(),
            "waiting": [(device, Run(*answer)) for device, answer, _ in self.waiting_runs],
            "holes": [[Run(*hole) for hole in self.holes(device)] for device in self.devices],
            "under_way": [len(self.flying[device]) for device in self.devices],
            "sight": [self.sight(device) for device in self.devices],
            "strays": [self.strays(device) for device in self.devices],
        }
