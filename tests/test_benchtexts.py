"""The interface under newesttells/benchtexts.py; promise [49], as far as it speaks of the text of a bench."""

import random
import re
import unittest

import oracle
from benches import EXAMPLE
from helpers import any_values, check_raises, error_of, values_of
from newesttells.bands import Band
from newesttells.bench import Bench, replayed
from newesttells.benchtexts import read_bench
from newesttells.errors import InvalidText, TellsError
from newesttells.streams import Stream

FORMS = {"band": r"band ([a-z]{1,6})\n", "cell": r"cell ([a-z]{1,6}) ([1-4])\n", "seed": r"seed ([.0-3]+)\n",
         "stream": r"stream ([a-z]{1,6}) ([a-z]{1,6})\n", "moment": r"moment ([.0-3]+)\n"}
BEHIND = {"band": (None, "seed"), "cell": ("band", "cell"), "seed": ("cell", "seed"),
          "stream": ("seed", "stream", "moment"), "moment": ("stream", "moment")}
BAND_K = "band k\ncell a 2\ncell b 2\nseed 0.\nseed .1\nseed 11\n"
BAND_Q = "band q\ncell a 2\nseed 1\nseed 0\n"
TEXT = BAND_K + BAND_Q + "stream s k\nmoment 11\nmoment 0.\nmoment ..\nstream t q\nstream u k\nmoment 01\n"


class Reader:
    """Reads a text line by line, as [49] tells; fault is the pair (line, why), or None."""

    def __init__(self, text):
        self.lines = re.findall(r"[^\n]*\n|[^\n]+", text)
        self.feeds = text.count("\n")
        self.bands, self.streams, self.cells, self.seeds, self.start = {}, {}, [], [], 0
        self.last, self.fault = None, None
        for at, line in enumerate([*self.lines, None]):
            if self.fault is None:
                self.step(at, line)

    def step(self, at, line):
        kind, words = self.form(line)
        if self.last == "seed" and kind != "seed":
            try:
                self.bands[self.label] = Band(self.cells, self.seeds)
            except TellsError:
                self.fault = self.start, "band"
                return
        if line is None:
            if self.last in ("band", "cell"):
                self.fault = self.feeds, "missing"
            return
        if kind is None or self.last not in BEHIND[kind]:
            self.fault = at, "form"
            return
        self.last = kind
        getattr(self, "read_" + kind)(at, *words)

    def form(self, line):
        for kind, form in FORMS.items():
            match = re.fullmatch(form, line or "")
            if match:
                # A line is of a form only in a place where this form may stand.
                return (kind, match.groups()) if self.last in BEHIND[kind] else (None, ())
        return None, ()

    def check_label(self, at, label):
        known = [*self.bands, *self.streams]
        if label in known or len(known) == 12:
            self.fault = at, "label"

    def read_band(self, at, label):
        self.check_label(at, label)
        self.label, self.start, self.cells, self.seeds = label, at, [], []

    def read_cell(self, at, name, many):
        self.cells.append((name, int(many)))

    def read_seed(self, at, row):
        self.seeds.append(row)

    def read_stream(self, at, label, home):
        self.check_label(at, label)
        if home not in self.bands:
            self.fault = at, "label"
        else:
            self.label = label
            self.streams[label] = (self.bands[home], [])

    def read_moment(self, at, row):
        band, rows = self.streams[self.label]
        if row not in band.rows() or len(rows) == 400:
            self.fault = at, "moment"
        rows.append(row)


class ReadTest(unittest.TestCase):
    def check(self, text, line, why):
        check_raises(self, InvalidText, {"line": line, "why": why}, read_bench, text)
        if isinstance(text, str):
            self.assertEqual(Reader(text).fault, (line, why), repr(text))

    def check_text(self, text):
        """Checks a text that may be right or wrong."""
        fault = Reader(text).fault
        error = error_of(read_bench, text)
        found = None if error is None else (values_of(error)["line"], values_of(error)["why"])
        self.assertEqual(found, fault, repr(text))
        if fault is None:
            self.assertEqual(read_bench(text).text(), text)
        return fault

    def test_a_text_that_a_bench_tells(self):
        bench = read_bench(TEXT)
        self.assertEqual([bench.text(), bench.labels()], [TEXT, ["k", "q", "s", "t", "u"]])
        self.assertEqual([bench.history(), bench.log(), bench.journal()], [(0, 0), [], []])
        self.assertEqual(bench.band_at("k"), Band(*EXAMPLE))
        self.assertEqual(bench.stream_at("s"), Stream(Band(*EXAMPLE), ["11", "0.", ".."]))
        self.assertEqual(read_bench(text=TEXT), bench)
        self.assertIsNone(Reader(TEXT).fault)

    def test_the_empty_text(self):
        self.assertEqual(read_bench(""), Bench())
        self.assertEqual(read_bench("").labels(), [])

    def test_a_bench_that_was_read_goes_on(self):
        bench = read_bench(TEXT)
        bench.do(("tell", "t", "1"), ("drop", "u"), ("stream", "v", "q"))
        self.assertEqual([bench.history(), bench.labels(), bench("standing t")],
                         [(1, 0), ["k", "q", "s", "t", "v"], "1"])
        bench.undo()
        self.assertEqual(bench.text(), TEXT)
        self.assertEqual(read_bench(bench.tried(("take", "s", 1))).stream_at("s").rows(), ["0.", ".."])

    def test_bands_alone(self):
        self.assertEqual(read_bench(BAND_Q + BAND_K).labels(), ["q", "k"])
        self.assertEqual(read_bench(BAND_K).text(), BAND_K)

    def test_random_benches(self):
        source = random.Random(1700)
        bands = oracle.random_bands(1701, 90)
        for at in range(0, 90, 3):
            bench = Bench()
            for name, band in zip("abc", bands[at:at + 3]):
                bench.do(("band", name, band.cells(), band.seeds()), ("stream", name + name, name))
                bench.do(*[("tell", name + name, source.choice(band.rows())) for _ in range(source.randint(0, 6))])
            again = read_bench(bench.text())
            self.assertEqual([again, again.text()], [bench, bench.text()])
            self.assertEqual(sorted(again.labels()), sorted(bench.labels()))
            self.assertEqual(replayed(bench.journal()), again)

    def test_no_string(self):
        for value in any_values() + [Bench(), [TEXT], (TEXT,), {TEXT: 1}]:
            if not isinstance(value, str):
                self.check(value, 0, "form")

    def test_wrong_first_lines(self):
        for line in ("a", "\n", " ", "band\n", "band \n", "band k", "band K\n", "band k \n", " band k\n", "band  k\n",
                     "band abcdefg\n", "band k k\n", "band 1\n", "Band k\n", "cell a 2\n", "seed 0\n", "stream s k\n",
                     "moment 0\n", "bench\n"):
            self.check(line, 0, "form")
            self.check(line + " \n" + TEXT, 0, "form")

    def test_wrong_lines_behind_each_kind_of_line(self):
        for head, at, good in (("band k\n", 1, ("cell",)), ("band k\ncell a 2\n", 2, ("cell", "seed")),
                               (BAND_Q, 4, ("seed", "band", "stream")),
                               (BAND_Q + "stream s q\n", 5, ("stream", "moment")),
                               (BAND_Q + "stream s q\nmoment 0\n", 6, ("stream", "moment"))):
            for kind, line in (("band", "band z\n"), ("cell", "cell z 2\n"), ("seed", "seed .\n"),
                               ("stream", "stream z q\n"),
                               ("moment", "moment .\n"), ("", "\n"), ("", " \n"), ("", "x\n"), ("", "moment\n"),
                               ("", "moment 4\n"), ("", "moment  0\n"), ("", "moment 0 \n"), ("", "moment 0 0\n"),
                               ("", "moment 0"), ("", "stream z\n"), ("", "stream z q q\n"), ("", "stream Z q\n"),
                               ("", "stream z 0\n"), ("", "stream z q"), ("", "seed 4\n"), ("", "seed 0"),
                               ("", "cell z 5\n"),
                               ("", "cell z 02\n"), ("", "cell z 2"), ("", "band z"), ("", "end s 1\n"),
                               ("", "moment +\n")):
                if kind not in good:
                    self.check(head + line, at, "form")
                    self.check(head + line + " x\n", at, "form")
                else:
                    self.check_text(head + line)

    def test_missing(self):
        self.check("band k\n", 1, "missing")
        self.check("band k\ncell a 2\n", 2, "missing")
        self.check("band k\ncell a 2\ncell a 2\n", 3, "missing")
        self.check(TEXT[:TEXT.index("stream")] + "band r\n", 11, "missing")
        self.check(TEXT[:TEXT.index("stream")] + "band r\ncell z 1\n", 12, "missing")

    def test_wrong_bands(self):
        for band in ("cell a 2\nseed 2\n", "cell a 2\nseed .\n", "cell a 2\nseed 0\nseed 0\n", "cell a 2\nseed 00\n",
                     "cell a 2\ncell a 2\nseed 00\n", "cell a 2\ncell b 2\nseed 0.\n",
                     "".join(f"cell {name} 1\n" for name in "abcdefghijklm") + "seed 0000000000000\n"):
            text = BAND_Q + "band k\n" + band
            # At the end of the text, and ahead of right and of wrong lines.
            for behind in ("", BAND_K, "stream s k\n", "stream s q\n", "x\n", "seed\n", "cell b 2\n", "band q\n",
                           "moment 0\n",
                           "stream q q\n", "seed 0", "band"):
                self.check(text + behind, 4, "band")
            self.check("band k\n" + band, 0, "band")
            self.check("band k\n" + band + "\n", 0, "band")

    def test_wrong_bands_with_too_many_rows_or_seeds(self):
        cells = "".join(f"cell {name} 1\n" for name in "abcdefghij")
        seeds = ["." * at + "0" + "." * (9 - at) for at in range(10)]
        self.check("band k\n" + cells + "".join(f"seed {seed}\n" for seed in seeds), 0, "band")
        self.assertIsNone(self.check_text("band k\n" + cells + "".join(f"seed {seed}\n" for seed in [*seeds[:8], "." * 8
                                                                                                   + "00"])))
        many = "".join(f"seed {value >> 4 & 3}{value >> 2 & 3}{value & 3}\n" for value in range(31))
        self.check("band k\ncell a 4\ncell b 4\ncell c 4\n" + many, 0, "band")

    def test_labels(self):
        self.check(BAND_K + "band k\n", 6, "label")
        self.check(BAND_K + "band k\n" + BAND_Q, 6, "label")
        self.check(BAND_K + "stream k k\n", 6, "label")
        self.check(BAND_K + "stream s q\n", 6, "label")
        self.check(BAND_K + "stream s s\n", 6, "label")
        self.check(BAND_K + "stream s k\nmoment 0.\nstream s k\n", 8, "label")
        self.check(BAND_K + "stream s k\nstream t s\n", 7, "label")
        self.check(BAND_K + "stream s k\nstream t t\nx", 7, "label")

    def test_12_and_13_labels(self):
        bands = "".join(BAND_Q.replace("q", name) for name in "abcdefghijkl")
        self.assertEqual(len(read_bench(bands)), 12)
        self.check(bands + "band m\n", 48, "label")
        self.check(bands + "stream m a\n", 48, "label")
        self.check(bands + "band M\n", 48, "form")
        text = BAND_Q + "".join(f"stream {name} q\nmoment 0\n" for name in "abcdefghijk")
        self.assertEqual(len(read_bench(text)), 12)
        self.check(text + "stream l q\n", 26, "label")
        self.check(text + "band l\n", 26, "form")
        self.check(text + "moment 2\n", 26, "moment")

    def test_moments(self):
        for row in ("00", "0", "0..", "2.", ".3", "1.", "...."):
            self.check(BAND_K + f"stream s k\nmoment {row}\n", 7, "moment")
            self.check(BAND_K + f"stream s k\nmoment 0.\nmoment {row}\nmoment x\n", 8, "moment")
        self.check(BAND_K + "stream s k\nmoment 4.\n", 7, "form")

    def test_400_and_401_moments(self):
        text = BAND_Q + "stream s q\n" + "moment 0\n" * 400
        self.assertEqual(len(read_bench(text).stream_at("s")), 400)
        self.assertIsNone(self.check_text(text + "stream t q\nmoment 1\n"))
        self.check(text + "moment 0\n", 405, "moment")
        self.check(text + "moment 2\nx", 405, "moment")
        self.check(text + "moment 0", 405, "form")

    def test_cut_anywhere(self):
        for count in range(len(TEXT) + 1):
            self.check_text(TEXT[:count])
        self.check(TEXT[:-1], 16, "form")
        self.assertEqual(self.check_text(TEXT[1:]), (0, "form"))

    def test_lines_bent_left_out_doubled_put_in_and_exchanged(self):
        lines = TEXT.splitlines(keepends=True)
        faults = set()
        others = ["band k\n", "band z\n", "cell c 1\n", "cell a 2\n", "seed 0.\n", "seed 1\n", "stream s k\n",
                  "stream z q\n", "stream z s\n", "moment 01\n", "moment 1\n", "\n", "moment ..", "x\n", " moment 0.\n"]
        for at in range(len(lines)):
            texts = [lines[:at] + lines[at + 1:], lines[:at + 1] + lines[at:]]
            texts += [lines[:at] + [other] + lines[at:] for other in others]
            texts += [lines[:at] + [other] + lines[at + 1:] for other in others]
            texts.append(lines[:at] + [lines[at][:-2] + "\n"] + lines[at + 1:])
            texts.append(lines[:at] + [lines[at][:-1] + " \n"] + lines[at + 1:])
            texts.append(lines[:at] + [lines[at].replace(" ", "  ")] + lines[at + 1:])
            texts.append(lines[:at] + [lines[at][:-1]] + lines[at + 1:])
            for to in range(at):
                texts.append(lines[:to] + [lines[at]] + lines[to + 1:at] + [lines[to]] + lines[at + 1:])
            faults |= {fault[1] if fault else None for fault in (self.check_text("".join(parts)) for parts in texts)}
        self.assertEqual(faults, {None, "form", "label", "moment", "band"})

    def test_bent_by_chance(self):
        source = random.Random(1710)
        for _ in range(1500):
            bent = TEXT
            for _ in range(source.randint(1, 2)):
                at = source.randrange(len(bent) + 1)
                sign = source.choice(["", "\n", " ", ".", "0", "1", "k", "q", "s", "moment .\n", "stream v k\n",
                                      "seed 0\n"])
                bent = bent[:at] + sign + bent[at + source.randint(0, 2):]
            self.check_text(bent)

    def test_an_earlier_wrong_line_counts(self):
        self.check(BAND_K + "stream s k\nmoment 00\nstream s k\n\n", 7, "moment")
        self.check(BAND_K + "stream k k\nmoment 00\n\n", 6, "label")
        self.check("band k\ncell a 2\nseed 5\n" + BAND_K, 2, "form")
        self.check("band k\ncell a 2\nseed 3\nseed 5\n", 0, "band")


if __name__ == "__main__":
    unittest.main()
