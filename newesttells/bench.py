"""Benches: bands and streams kept by labels, with deeds that can be undone and done again."""

from newesttells.answers import answer_to
from newesttells.errors import NothingLeft
from newesttells.shelves import Shelf, band_on, shelf_behind, stream_on, text_of_shelf


def copied_deed(deed):
    """A deed with copies of its lists."""
    return tuple([list(item) if isinstance(item, list) else item for item in deed])


def copied_call(call):
    """The deeds of a call with copies of their lists."""
    return tuple([copied_deed(deed) for deed in call])


class Bench:
    """Bands and streams by labels, the steps that led there, and the lines that were said."""

    def __init__(self):
        # One shelf more than there are calls: the one ahead of all, and the one behind each.
        self._shelves = [Shelf({})]
        self._calls = []
        self._done = 0
        self._said = []
        self._busy = False

    def _shelf(self):
        """The shelf with all that is kept now."""
        return self._shelves[self._done]

    def do(self, *deeds):
        """Does all deeds, or none if one of them cannot be done."""
        self._busy = True
        try:
            shelf = shelf_behind(self._shelf(), deeds)
            if len(deeds) > 0:
                self._shelves = [*self._shelves[:self._done + 1], shelf]
                self._calls = [*self._calls[:self._done], copied_call(deeds)]
                self._done = self._done + 1
        finally:
            self._busy = False

    def undo(self):
        """Takes the last step back."""
        if self._done == 0:
            raise NothingLeft()
        self._done = self._done - 1

    def redo(self):
        """Does the step again that was taken back last."""
        if self._done == len(self._calls):
            raise NothingLeft()
        self._done = self._done + 1

    def history(self):
        """The pair of the numbers of steps that can be undone and redone."""
        return self._done, len(self._calls) - self._done

    def journal(self):
        """The list of the calls that stand, the oldest first."""
        return [copied_call(call) for call in self._calls[:self._done]]

    def labels(self):
        """The list of the labels, in the order in which they were kept."""
        return list(self._shelf().kept)

    def band_at(self, label):
        """The band with a label."""
        return band_on(self._shelf(), label)

    def stream_at(self, label):
        """A twin of the stream with a label."""
        return stream_on(self._shelf(), label).twin()

    @property
    def busy(self):
        """Whether deeds are being done."""
        return self._busy

    def tried(self, *deeds):
        """The text that the bench would have behind some deeds."""
        return text_of_shelf(shelf_behind(self._shelf(), deeds))

    def text(self):
        """The text of all bands, and then of all streams."""
        return text_of_shelf(self._shelf())

    def __str__(self):
        return str(self.text())

    def say(self, line):
        """The answer to a line."""
        answer = answer_to(self, line)
        self._said.append((line, answer))
        return answer

    def __call__(self, line):
        return self.say(line)

    def log(self):
        """The list of the pairs (line, answer) of all lines that were said."""
        return list(self._said)

    def twin(self):
        """An independent bench in the same state, with its history and log."""
        other = Bench()
        # Shelves that are done are not changed any more, so that both benches may have them.
        other._shelves = list(self._shelves)
        other._calls = list(self._calls)
        other._done = self._done
        other._said = list(self._said)
        return other

    def __contains__(self, x):
        return isinstance(x, str) and x in self._shelf().kept

    def __eq__(self, other):
        return isinstance(other, Bench) and text_of_shelf(self._shelf()) == text_of_shelf(other._shelf())

    def __len__(self):
        return len(self._shelf().kept)

    def __bool__(self):
        return True

    def __repr__(self):
        return f"Bench({len(self._shelf().kept)} labels)"


def bench_with(shelf):
    """A bench that keeps what a shelf does, without history and log."""
    bench = Bench()
    bench._shelves = [shelf]
    return bench


def replayed(journal):
    """A new bench on which the calls of a journal are done, in order."""
    bench = Bench()
    for call in journal:
        bench.do(*call)
    return bench
