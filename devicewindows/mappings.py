"""Mappings: runs of words that devices reach through pages of their spaces."""

from devicewindows.runs import Run

# So many mappings may be bound at once, each with a run of so many words.
MOST_BOUND = 4
LONGEST = 16


class Mapping:
    """A run of words and its places, one for each page that it touches; the device owns all words at first.

    `answer` is the whole run that the space answered; its first pages are those of the mapping.
    """

    def __init__(self, device, run, direction, answer, places):
        self.device = device
        self.run = run
        self.direction = direction
        self.answer = answer
        self._places = places
        # For each word, whether the device owns it; otherwise the processor does.
        self._owned = [True] * run.many

    def pages(self):
        """The run of its device pages."""
        return Run(self.answer.first, len(self._places))

    def touches(self, word):
        """Whether some word of the run is in this word's page."""
        return word // Run.PAGE in self.run.touched_pages()

    def place(self, word):
        """Where the device finds the word."""
        return self._places[word // Run.PAGE - self.run.first // Run.PAGE]

    def address(self, word):
        """The address at which the device finds the word."""
        return Run.PAGE * self.answer.first + word - Run.PAGE * (self.run.first // Run.PAGE)

    def owns(self, word):
        """Whether the device owns the word."""
        return self._owned[word - self.run.first]

    def hand(self, word, to_device):
        """The device owns the word from now on, or the processor does."""
        self._owned[word - self.run.first] = to_device

    def marks(self):
        """A letter for each word: d if the device owns it, p if the processor does."""
        return "".join(["d" if owned else "p" for owned in self._owned])
