"""The interface under newesttells/families.py; promise [10] (fewest seeds)."""

import itertools
import random
import unittest

import oracle
from helpers import any_values, check_raises
from newesttells.bands import Band
from newesttells.errors import BadCells, BadLot, BadRow, NotClosed, TooMany, Untold
from newesttells.families import band_of_rows, fewest_seeds, first_break, seed_classes

CELLS = [("a", 2), ("b", 2)]
FOUR = [(name, 4) for name in "abcd"]


def full_rows(count):
    return ["".join(signs) for signs in itertools.islice(itertools.product("0123", repeat=5), count)]


class BreakTest(unittest.TestCase):
    def test_closed_lists(self):
        self.assertIsNone(first_break([]))
        self.assertIsNone(first_break(["..", ".."]))
        self.assertIsNone(first_break(["00", "01", "11"]))
        self.assertIsNone(first_break([".1", "0.", "01", "11"]))
        self.assertIsNone(first_break(rows=("..", ".1", "0.", "01", "11", "0.")))

    def test_breaks(self):
        self.assertEqual(first_break(["0.", ".1"]), (".1", "0."))
        self.assertEqual(first_break(["1.", "0.", ".1", "01"]), (".1", "1."))
        self.assertEqual(first_break(["1.", ".1", "11", ".0"]), (".0", "1."))
        self.assertEqual(first_break(["0.", "10", "0."]), ("0.", "10"))

    def test_against_the_words(self):
        source = random.Random(30)
        closed = 0
        for _ in range(300):
            cells = oracle.random_cells(source, 3)
            rows = [oracle.random_row(source, cells) for _ in range(source.randint(0, 7))]
            pairs = [(x, y) for x in rows for y in rows
                     if oracle.over(x, y) not in rows and oracle.over(x, y).strip(".")]
            self.assertEqual(first_break(rows), min(pairs, default=None))
            closed += not pairs
        self.assertGreater(closed, 20)

    def test_all_digits(self):
        cells = [("a", 4), ("b", 3)]
        for row in oracle.all_rows(cells):
            for other in oracle.all_rows(cells):
                pairs = [(x, y) for x in (row, other) for y in (row, other)
                         if oracle.over(x, y) not in (row, other, "..")]
                self.assertEqual(first_break([row, other]), min(pairs, default=None))

    def test_rows_of_bands_are_closed(self):
        for band in oracle.random_bands(31, 40):
            self.assertIsNone(first_break(band.rows()))

    def test_the_list_stays(self):
        rows = ["11", "0.", ".1", "01"]
        first_break(rows)
        self.assertEqual(rows, ["11", "0.", ".1", "01"])


class FewestTest(unittest.TestCase):
    def test_the_example(self):
        one = Band(CELLS, ["0.", "10"])
        two = Band(CELLS, ["0.", "1.", "10", "00"])
        self.assertEqual([fewest_seeds(one), fewest_seeds(two)], [["0.", "10"], ["0.", "1.", "00"]])
        self.assertEqual(fewest_seeds(band=one), ["0.", "10"])

    def test_one_cell_and_12_cells(self):
        self.assertEqual(fewest_seeds(Band([("a", 4)], ["2", "0", "3"])), ["0", "2", "3"])
        band = Band([(name, 1) for name in "abcdefghijkl"], ["0" * 12, "0" * 11 + "."])
        self.assertEqual(fewest_seeds(band), ["0" * 11 + ".", "0" * 12])

    def test_classes(self):
        band = Band(CELLS, ["0.", "1.", "10", "00"])
        self.assertEqual([seed_classes(band, lot) for lot in ("+.", "++")], [[["0."], ["1."]], [["00", "10"]]])
        band = Band(CELLS, ["0.", "10", "11", "00"])
        self.assertEqual(seed_classes(band, "++"), [["10"], ["11"]])
        self.assertEqual(seed_classes(band=Band(CELLS, ["0.", ".1", "11"]), lot="++"), [["11"]])
        self.assertEqual(seed_classes(Band(CELLS, ["0.", "1.", ".0", ".1"]), "++"), [])

    def test_classes_with_several_rows(self):
        cells = [("a", 3), ("b", 2), ("c", 2)]
        band = Band(cells, ["0..", "1..", "000", "201", "211"])
        self.assertEqual(seed_classes(band, "+++"), [["000", "100"], ["201"], ["211"]])
        self.assertEqual(fewest_seeds(band), ["0..", "1..", "000", "201", "211"])

    def test_against_the_words(self):
        for band in oracle.random_bands(32, 150, 3, 3, 6):
            rows = band.rows()
            self.assertEqual(fewest_seeds(band), oracle.seeds_of(rows), band.seeds())
            for lot in band.lots()[1:]:
                self.assertEqual(seed_classes(band, lot), oracle.classes_of(rows, lot), (band.seeds(), lot))

    def test_fewest_seeds_make_the_band_and_none_can_be_spared(self):
        for band in oracle.random_bands(33, 60):
            seeds = fewest_seeds(band)
            self.assertTrue(Band(band.cells(), seeds).same_rows(band))
            for seed in seeds:
                self.assertNotEqual(oracle.closure(band.size, [kept for kept in seeds if kept != seed]), band.rows())

    def test_the_fact_about_lists_of_rows(self):
        source = random.Random(34)
        for band in oracle.random_bands(35, 60, 3):
            rows = band.rows()
            classes = [group for lot in band.lots()[1:] for group in seed_classes(band, lot)]
            for _ in range(10):
                some = source.sample(rows, source.randint(0, len(rows)))
                right = all(any(row in group for row in some) for group in classes)
                self.assertIs(oracle.closure(band.size, some) == rows, right)

    def test_bad_lots(self):
        band = Band(CELLS, ["0.", "11"])
        for value in any_values() + ["..", ".+", "+", "+++", "0.", band, ["+."]]:
            if value != "++":
                check_raises(self, BadLot, {"lot": value}, seed_classes, band, value)

    def test_answers_are_new(self):
        band = Band(CELLS, ["0.", "1.", "10", "00"])
        fewest_seeds(band).clear()
        seed_classes(band, "++")[0].clear()
        self.assertEqual([fewest_seeds(band), seed_classes(band, "++")], [["0.", "1.", "00"], [["00", "10"]]])


class BandOfRowsTest(unittest.TestCase):
    def test_bands(self):
        self.assertEqual(band_of_rows(CELLS, ["01", "0.", "11", ".1"]), Band(CELLS, ["0.", ".1", "11"]))
        self.assertEqual(band_of_rows(cells=tuple(CELLS), rows=("..", "00", "00")), Band(CELLS, ["00"]))
        for band in oracle.random_bands(36, 60):
            source = random.Random(len(band))
            rows = band.rows() + [source.choice(band.rows())]
            source.shuffle(rows)
            made = band_of_rows(band.cells(), rows)
            self.assertTrue(made.same_rows(band))
            self.assertEqual(made.seeds(), fewest_seeds(band))

    def test_wrong_cells(self):
        for value in any_values():
            if value != [("a", 2)]:
                whole = not isinstance(value, (list, tuple)) or not value
                check_raises(self, BadCells, {"at": -1 if whole else 0}, band_of_rows, value, [None])
        check_raises(self, BadCells, {"at": 1}, band_of_rows, [("a", 2), ("a", 2)], ["5"])

    def test_wrong_rows(self):
        for value in any_values() + [Band(CELLS, ["00"]), "02", "2.", "000", ["0", "0"]]:
            if not (isinstance(value, str) and value in oracle.all_rows(CELLS)):
                check_raises(self, BadRow, {"row": value}, band_of_rows, CELLS, [value])
                check_raises(self, BadRow, {"row": value}, band_of_rows, CELLS, ["0.", ".1", "..", value, "5"])

    def test_800_and_801_rows(self):
        cells = [(name, 4) for name in "abcde"]
        check_raises(self, TooMany, {"most": 30}, band_of_rows, cells, full_rows(799))
        check_raises(self, TooMany, {"most": 30}, band_of_rows, cells, ["....."] + full_rows(799) + full_rows(5))
        check_raises(self, TooMany, {"most": 800}, band_of_rows, cells, full_rows(800))
        check_raises(self, TooMany, {"most": 800}, band_of_rows, cells, ["....."] + full_rows(800))
        five = [("a", 1), ("b", 3), ("c", 3), ("d", 4), ("e", 4)]
        seeds = [seed for at, (_, many) in enumerate(five)
                 for seed in ["." * at + str(value) + "." * (4 - at) for value in range(many)]]
        rows = oracle.laid_closure(5, seeds)
        self.assertEqual(len(rows), 800)
        ordered = sorted(seeds, key=lambda row: (oracle.lot_of(row), row))
        self.assertEqual(band_of_rows(five, rows[1:]), Band(five, ordered))

    def test_not_closed(self):
        check_raises(self, NotClosed, {"one": ".1", "other": "0."}, band_of_rows, CELLS, ["0.", ".1"])
        check_raises(self, NotClosed, {"one": ".1", "other": "1."}, band_of_rows, CELLS, ["1.", "0.", ".1", "01"])
        check_raises(self, NotClosed, {"one": "0.", "other": "10"}, band_of_rows, CELLS, ("..", "10", "0."))

    def test_untold(self):
        check_raises(self, Untold, {"cell": "a"}, band_of_rows, CELLS, [])
        check_raises(self, Untold, {"cell": "a"}, band_of_rows, CELLS, [".."])
        check_raises(self, Untold, {"cell": "b"}, band_of_rows, CELLS, ["0.", "1."])

    def test_30_and_31_seeds(self):
        rows = ["".join(signs) for signs in itertools.islice(itertools.product("0123", repeat=4), 31)]
        self.assertEqual(band_of_rows(FOUR, rows[:30]).seeds(), rows[:30])
        check_raises(self, TooMany, {"most": 30}, band_of_rows, FOUR, rows)

    def test_the_order_of_errors(self):
        rows = full_rows(801)
        cells = [(name, 4) for name in "abcde"]
        check_raises(self, BadCells, {"at": 0}, band_of_rows, [("a", 9)], rows)
        check_raises(self, BadRow, {"row": "0"}, band_of_rows, cells, rows + ["0"])
        check_raises(self, TooMany, {"most": 800}, band_of_rows, cells, rows[2:] + [".0...", "0...."])
        check_raises(self, NotClosed, {"one": ".0....", "other": "0....."}, band_of_rows, [*cells, ("f", 1)],
                     ["0.....", ".0...."])
        wide = [*cells, ("f", 1)]
        check_raises(self, Untold, {"cell": "f"}, band_of_rows, wide, [row + "." for row in rows[:40]])
        # Not closed, the last cell untold, and more than 30 seeds needed.
        check_raises(self, NotClosed, {"one": "0.....", "other": "10000."}, band_of_rows, wide,
                     [row + "." for row in rows[1:40]] + ["10000.", "0....."])


if __name__ == "__main__":
    unittest.main()
