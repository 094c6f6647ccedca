"""Promise [49], as far as it speaks of the text of a band: Band.text, str of a band and Band.read."""

import random
import re
import unittest

import oracle
from helpers import any_values, check_raises, error_of, values_of
from newesttells.bands import Band
from newesttells.errors import InvalidText, TellsError

CELL = re.compile(r"cell ([a-z]{1,6}) ([1-4])\n", re.ASCII)
SEED = re.compile(r"seed ([.0-3]+)\n", re.ASCII)
TEXT = "cell a 2\ncell b 2\nseed 0.\nseed .1\nseed 11\n"


def example():
    return Band([("a", 2), ("b", 2)], ["0.", ".1", "11"])


def fault_of(text):
    """The pair (line, why) of a text that is no text of a band, otherwise None; by the words of [49], line by line."""
    lines = re.findall(r"[^\n]*\n|[^\n]+", text)
    cells, seeds = [], []
    for at, line in enumerate(lines + [None]):
        cell = CELL.fullmatch(line) if line is not None and not seeds else None
        seed = SEED.fullmatch(line) if line is not None and cells else None
        if cell:
            cells.append((cell[1], int(cell[2])))
        elif seed:
            seeds.append(seed[1])
        elif seeds and refused(cells, seeds):
            return 0, "band"
        elif line is not None:
            return at, "form"
        elif not seeds:
            return text.count("\n"), "missing"
    return None


def refused(cells, seeds):
    try:
        Band(cells, seeds)
    except TellsError:
        return True
    return False


class TextTest(unittest.TestCase):
    def test_text(self):
        self.assertEqual([example().text(), str(example())], [TEXT, TEXT])
        self.assertEqual(Band([("abcdef", 4)], ["3"]).text(), "cell abcdef 4\nseed 3\n")

    def test_read(self):
        self.assertEqual(Band.read(TEXT), example())
        self.assertEqual(Band.read(text=TEXT), example())
        self.assertEqual(example().read("cell a 1\nseed 0\n"), Band([("a", 1)], ["0"]))
        for band in oracle.random_bands(20, 60):
            self.assertEqual(Band.read(band.text()), band)
            self.assertEqual(Band.read(str(band)).text(), band.text())

    def test_12_cells_and_30_seeds(self):
        cells = [(name, 4) for name in "abcdefghijkl"]
        seeds = ["0" * 10 + str(at // 4 % 4) + str(at % 4) for at in range(16)]
        seeds += ["1" * 10 + seed[10:] for seed in seeds[:14]]
        band = Band(cells, seeds)
        self.assertEqual(Band.read(band.text()), band)
        self.check(band.text() + "seed 2..........0\n", 0, "band")
        self.check("cell m 1\n" + band.text(), 0, "band")

    def check(self, text, line, why):
        check_raises(self, InvalidText, {"line": line, "why": why}, Band.read, text)
        if isinstance(text, str):
            self.assertEqual(fault_of(text), (line, why))

    def test_no_string(self):
        for value in any_values() + [example(), [TEXT], (TEXT,)]:
            if not isinstance(value, str):
                self.check(value, 0, "form")

    def test_missing(self):
        self.check("", 0, "missing")
        self.check("cell a 2\n", 1, "missing")
        self.check("cell a 2\ncell b 2\n", 2, "missing")
        # The cells are only looked at together with seeds.
        self.check("cell a 2\ncell a 2\n", 2, "missing")

    def test_form(self):
        for line in ("", "\n", "a\n", "cell\n", "cell a\n", "cell a 2", "cell a 2 \n", " cell a 2\n", "cell  a 2\n",
                     "cell a  2\n", "cell A 2\n", "cell abcdefg 2\n", "cell a 0\n", "cell a 5\n", "cell a 02\n",
                     "cell a 22\n", "cell a +2\n", "cell a1 2\n", "Cell a 2\n", "cell a 2 2\n", "cell 2 a\n",
                     "seed 0\n", "seed .\n", "band k\n", "stream s k\n", "moment 0\n", "cell a \n", "cell  2\n"):
            if line:
                self.check(line, 0, "form")
                self.check(line + "seed 0\n", 0, "form")

    def test_form_of_seed_lines(self):
        for line in ("\n", "seed\n", "seed \n", "seed 0", "seed 0. \n", "seed  0.\n", "seed 4.\n", "seed 0 .\n",
                     "seed ++\n", "Seed 0.\n", "seed 0.\t\n", "seed -1\n", " seed 0.\n", "moment 0.\n", "band k\n", "x",
                     "seed"):
            self.check("cell a 2\ncell b 2\n" + line, 2, "form")
            self.check(TEXT + line, 5, "form")
            self.check(TEXT + line + " \nseed ..\n", 5, "form")

    def test_cell_lines_behind_seed_lines(self):
        self.check(TEXT + "cell c 2\n", 5, "form")
        self.check(TEXT + TEXT, 5, "form")
        self.check("seed 0.\n" + TEXT, 0, "form")

    def test_band(self):
        for text in ("cell a 2\nseed 2\n", "cell a 2\nseed .\n", "cell a 2\nseed 0\nseed 0\n", "cell a 2\nseed 00\n",
                     "cell a 2\ncell a 2\nseed 00\n", "cell a 2\ncell b 2\nseed 0.\n"):
            self.check(text, 0, "band")
            # The band is looked at ahead of a wrong line behind it.
            self.check(text + "\n", 0, "band")
            self.check(text + "seed 4\n", 0, "band")
            self.check(text + "cell c 2\n", 0, "band")
            self.check(text[:-1], fault_of(text[:-1])[0], fault_of(text[:-1])[1])

    def test_too_many_rows(self):
        text = "".join(f"cell {name} 1\n" for name in "abcdefghij")
        text += "".join("seed " + "." * at + "0" + "." * (9 - at) + "\n" for at in range(10))
        self.check(text, 0, "band")
        self.check(text + "seed", 0, "band")

    def test_a_text_whose_end_is_cut(self):
        for count in range(len(TEXT)):
            fault = fault_of(TEXT[:count])
            if fault:
                self.check(TEXT[:count], *fault)
            else:
                self.assertEqual(Band.read(TEXT[:count]).text(), TEXT[:count])
        self.assertEqual([fault_of(TEXT[:count]) for count in (len(TEXT) - 1, len(TEXT) - 8, 17, 18)],
                         [(4, "form"), None, (1, "form"), (2, "missing")])

    def test_one_line_feed_more(self):
        for at in range(len(TEXT) + 1):
            text = TEXT[:at] + "\n" + TEXT[at:]
            fault = fault_of(text)
            self.check(text, *fault)
        self.check(TEXT + "\n", 5, "form")
        self.check("\n" + TEXT, 0, "form")

    def test_lines_left_out_doubled_exchanged_and_put_in(self):
        lines = TEXT.splitlines(keepends=True)
        texts = []
        for at in range(len(lines)):
            texts.append(lines[:at] + lines[at + 1:])
            texts.append(lines[:at + 1] + lines[at:])
            texts.append(lines[:at] + lines[at + 1:at + 2] + lines[at:at + 1] + lines[at + 2:])
            for line in ("seed 1.\n", "cell c 1\n", "cell b 2\n", "seed 0.\n", "cell\n", "seed 000\n", " \n"):
                texts.append(lines[:at] + [line] + lines[at:])
        for parts in texts:
            self.check_text("".join(parts))

    def check_text(self, text):
        fault = fault_of(text)
        error = error_of(Band.read, text)
        found = None if error is None else (values_of(error)["line"], values_of(error)["why"])
        self.assertEqual(found, fault, repr(text))
        if fault is None:
            self.assertEqual(Band.read(text).text(), text)

    def test_texts_bent_by_chance(self):
        source = random.Random(21)
        for band in oracle.random_bands(22, 40):
            text = band.text()
            for _ in range(40):
                bent = text
                for _ in range(source.randint(1, 2)):
                    at = source.randrange(len(bent) + 1)
                    sign = source.choice(["", "\n", " ", ".", "0", "3", "a", "cell a 2\n", "seed 0\n", "seed "])
                    bent = bent[:at] + sign + bent[at + source.randint(0, 1):]
                self.check_text(bent)


if __name__ == "__main__":
    unittest.main()
