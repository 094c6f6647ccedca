"""A bench by the words of [48] to [50], over plain lists and dicts, and deeds to try it on."""

import copy
import re

import oracle
from helpers import error_of, values_of
from newesttells.bands import Band

SIZES = {"band": 4, "stream": 3, "tell": 3, "put": 4, "take": 3, "exchange": 3, "set": 4, "drop": 2}
EXAMPLE = [("a", 2), ("b", 2)], ["0.", ".1", "11"]
NUMBER = re.compile("0|[1-9][0-9]{0,8}", re.ASCII)


class Refused(Exception):
    """The name of an error and its values."""


def is_name(value):
    return isinstance(value, str) and re.fullmatch("[a-z]{1,6}", value) is not None


def is_whole(value, least, most):
    return type(value) is int and least <= value <= most


class Model:
    """Bands and streams by labels; a state is a list of (label, band) and (label, home, rows) in order."""

    def __init__(self):
        self.state, self.before, self.ahead, self.calls, self.undone, self.said = [], [], [], [], [], []

    def find(self, label, sizes):
        for item in self.state:
            if isinstance(label, str) and item[0] == label and len(item) in sizes:
                return item
        raise Refused("UnknownName", {"name": label})

    def do(self, *deeds):
        for at, deed in enumerate(deeds):
            if not isinstance(deed, tuple) or not deed or not isinstance(deed[0], str) or \
                    SIZES.get(deed[0]) != len(deed):
                raise Refused("BadDeed", {"at": at})
        old = copy.deepcopy(self.state)
        try:
            for deed in deeds:
                getattr(self, "do_" + deed[0])(*deed[1:])
        except Refused:
            self.state = old
            raise
        if deeds:
            self.before, self.ahead = [*self.before, old], []
            self.calls, self.undone = [*self.calls, copy.deepcopy(deeds)], []

    def new_label(self, label):
        if not is_name(label):
            raise Refused("BadName", {"value": label})
        if label in [item[0] for item in self.state]:
            raise Refused("TakenName", {"name": label})

    def room(self):
        if len(self.state) >= 12:
            raise Refused("TooMany", {"most": 12})

    def do_band(self, label, cells, seeds):
        self.new_label(label)
        error = error_of(Band, cells, seeds)
        if error:
            raise Refused(type(error).__name__, values_of(error))
        self.room()
        self.state.append((label, Band(cells, seeds)))

    def do_stream(self, label, home):
        self.new_label(label)
        self.find(home, [2])
        self.room()
        self.state.append((label, home, []))

    def checked(self, label, row):
        band = self.find(self.find(label, [3])[1], [2])[1]
        if not isinstance(row, str) or row not in oracle.all_rows(band.cells()):
            raise Refused("BadRow", {"row": row})
        if row not in band.rows():
            raise Refused("NotInBand", {"row": row})

    def moment(self, moment, least, most):
        if not is_whole(moment, least, most):
            raise Refused("NoMoment", {"moment": moment})

    def do_tell(self, label, row):
        rows = self.find(label, [3])[2]
        if len(rows) >= 400:
            raise Refused("TooMany", {"most": 400})
        self.checked(label, row)
        rows.append(row)

    def do_put(self, label, row, behind):
        rows = self.find(label, [3])[2]
        self.checked(label, row)
        self.moment(behind, 0, len(rows))
        if len(rows) >= 400:
            raise Refused("TooMany", {"most": 400})
        rows.insert(behind, row)

    def do_take(self, label, moment):
        rows = self.find(label, [3])[2]
        self.moment(moment, 1, len(rows))
        del rows[moment - 1]

    def do_exchange(self, label, moment):
        rows = self.find(label, [3])[2]
        self.moment(moment, 1, len(rows) - 1)
        rows[moment - 1:moment + 1] = rows[moment - 1:moment + 1][::-1]

    def do_set(self, label, moment, row):
        rows = self.find(label, [3])[2]
        self.moment(moment, 1, len(rows))
        self.checked(label, row)
        rows[moment - 1] = row

    def do_drop(self, label):
        item = self.find(label, [2, 3])
        if len(item) == 2 and any(len(other) == 3 and other[1] == label for other in self.state):
            raise Refused("InUse", {"name": label})
        self.state = [other for other in self.state if other is not item]

    def undo(self):
        if not self.before:
            raise Refused("NothingLeft", {})
        self.ahead, self.state = [self.state, *self.ahead], self.before[-1]
        self.undone, self.calls = [self.calls[-1], *self.undone], self.calls[:-1]
        self.before = self.before[:-1]

    def redo(self):
        if not self.ahead:
            raise Refused("NothingLeft", {})
        self.before, self.state = [*self.before, self.state], self.ahead[0]
        self.calls, self.undone = [*self.calls, self.undone[0]], self.undone[1:]
        self.ahead = self.ahead[1:]

    def labels(self):
        return [item[0] for item in self.state]

    def text(self):
        lines = []
        for item in self.state:
            if len(item) == 2:
                lines.append(f"band {item[0]}")
                lines.extend(f"cell {name} {many}" for name, many in item[1].cells())
                lines.extend(f"seed {seed}" for seed in item[1].seeds())
        for item in self.state:
            if len(item) == 3:
                lines.append(f"stream {item[0]} {item[1]}")
                lines.extend(f"moment {row}" for row in item[2])
        return "".join(line + "\n" for line in lines)

    def say(self, line):
        self.said.append((line, self.answer(line)))
        return self.said[-1][1]

    def answer(self, line):
        words = line.split(" ")
        forms = {"standing": 1, "tellers": 1, "window": 3, "end": 2, "rows": 1, "made": 2, "undo": 0, "redo": 0}
        numbers = words[2:] if words[0] in ("window", "end") else []
        if "\n" in line or "" in words or forms.get(words[0]) != len(words) - 1 or \
                not all(NUMBER.fullmatch(word) for word in numbers):
            return "unknown"
        try:
            return self.right_answer(words, [int(word) for word in numbers])
        except Refused as error:
            return "error " + error.args[0]

    def right_answer(self, words, numbers):
        if words[0] in ("undo", "redo"):
            getattr(self, words[0])()
            return "done"
        if words[0] in ("rows", "made"):
            rows = self.find(words[1], [2])[1].rows()
            return str(len(rows)) if words[0] == "rows" else "yes" if words[2] in rows else "no"
        _, home, rows = self.find(words[1], [3])
        blank = "." * self.find(home, [2])[1].size
        if words[0] == "tellers":
            return " ".join(str(moment) for moment, _ in oracle.tellers(rows)) or "none"
        if words[0] == "standing":
            return self.laid([blank, *rows])
        self.moment(numbers[0], 1, len(rows))
        if words[0] == "window":
            self.moment(numbers[1], numbers[0], len(rows))
            return self.laid(rows[numbers[0] - 1:numbers[1]])
        return self.end(rows, numbers[0])

    def end(self, rows, moment):
        for last in range(moment, len(rows) + 1):
            newer = self.laid(["." * len(rows[0]), *rows[moment:last]])
            if oracle.inside(oracle.lot_of(rows[moment - 1]), oracle.lot_of(newer)):
                return str(last)
        return "open"

    def laid(self, rows):
        standing = rows[0]
        for row in rows[1:]:
            standing = oracle.over(row, standing)
        return standing


def random_deed(source, labels):
    """A deed that may be refused."""
    label = source.choice(labels)
    other = source.choice(labels)
    row = source.choice(["0.", ".1", "11", "01", "..", "0.", ".1", "11", "00", "2.", "0", None])
    moment = source.choice([0, 1, 1, 1, 2, 2, 3, 4, True, None, -1, "1"])
    kind = source.choice(["band", "stream", "stream", "tell", "tell", "tell", "tell", "put", "put", "take", "exchange",
                          "set", "set", "drop"])
    cells, seeds = EXAMPLE
    if kind == "band":
        seeds = source.choice([seeds, seeds[::-1], ["0.", "00"], ["2.", ".1"], tuple(seeds), ["0."]])
        return kind, label, list(cells), seeds
    return {"stream": (kind, label, other), "tell": (kind, label, row), "put": (kind, label, row, moment),
            "take": (kind, label, moment), "exchange": (kind, label, moment), "set": (kind, label, moment, row),
            "drop": (kind, label)}[kind]


def random_line(source, labels):
    word = source.choice(["standing", "tellers", "window", "end", "rows", "made", "undo", "redo", "seen", ""])
    rest = [source.choice(labels)]
    if word in ("undo", "redo"):
        rest = []
    if word in ("window", "end"):
        rest += [source.choice(["0", "1", "1", "2", "3", "4", "01", "x", "1000000000", "999999999", "-1", "+1"])
                 for _ in range(2 if word == "window" else 1)]
    if word == "made":
        rest.append(source.choice(["01", "00", "11", "..", "0.", "x", "0..", "yes"]))
    if source.random() < 0.1:
        rest.append(source.choice(["1", "", "s", "\n"]))
    return " ".join([word, *rest])
