"""The interface under newesttells/lots.py; promises [12] (rows that lie above) and [13] (signed and plain counts)."""

import unittest

import oracle
from helpers import any_values, check_raises
from newesttells.bands import Band
from newesttells.errors import BadLot, BadRow, NotInBand
from newesttells.lots import lying_counts, plain_counts, rows_above, signed_counts

CELLS = [("a", 2), ("b", 2)]


def example():
    return Band(CELLS, ["0.", ".1", "11"])


def above(rows, row):
    return [other for other in rows if oracle.over(row, other) == other]


class AboveTest(unittest.TestCase):
    def test_rows_above(self):
        band = example()
        self.assertEqual([rows_above(band, row) for row in band.rows()],
                         [band.rows(), [".1", "01", "11"], ["0.", "01"], ["01"], ["11"]])
        self.assertEqual(rows_above(band=band, row="0."), ["0.", "01"])

    def test_against_the_words(self):
        for band in oracle.random_bands(40, 60):
            for row in band.rows():
                self.assertEqual(rows_above(band, row), above(band.rows(), row))

    def test_the_errors_of_a_row(self):
        band = example()
        for value in any_values() + [band, "000", "02", ["0."]]:
            if not (isinstance(value, str) and value in oracle.all_rows(CELLS)):
                check_raises(self, BadRow, {"row": value}, rows_above, band, value)
        for row in ("00", "1.", ".0", "10"):
            check_raises(self, NotInBand, {"row": row}, rows_above, band, row)

    def test_lying_counts(self):
        band = example()
        self.assertEqual([lying_counts(band, lot) for lot in band.lots()],
                         [{"..": 1, "+.": 1, ".+": 1, "++": 2}, {"+.": 1, "++": 1}, {".+": 1, "++": 2}, {"++": 1}])
        self.assertEqual(lying_counts(band=band, lot=".+"), {".+": 1, "++": 2})

    def test_lying_counts_for_each_row_of_the_lot(self):
        for band in oracle.random_bands(41, 60):
            for lot in band.lots():
                counts = lying_counts(band, lot)
                self.assertEqual(list(counts), [higher for higher in band.lots() if oracle.inside(lot, higher)])
                self.assertEqual(counts[lot], 1)
                for row in band.rows():
                    if oracle.lot_of(row) == lot:
                        lots = [oracle.lot_of(other) for other in above(band.rows(), row)]
                        self.assertEqual(counts, {higher: lots.count(higher) for higher in counts})

    def test_lying_counts_are_those_of_the_band_above(self):
        for band in oracle.random_bands(42, 40):
            for row in band.rows():
                if "." in row:
                    higher = band.above(row)
                    counts = lying_counts(band, oracle.lot_of(row))
                    lots = [oracle.lot_of(other) for other in higher.rows()]
                    cut = {"".join(sign for sign, beside in zip(lot, row) if beside == "."): count
                           for lot, count in counts.items()}
                    self.assertEqual(cut, {lot: lots.count(lot) for lot in cut})

    def test_bad_lots(self):
        band = Band(CELLS, ["0.", "11"])
        for value in any_values() + [".+", "+", "+++", "0.", band, ["+."], ["+", "."]]:
            if not (isinstance(value, str) and value in band.lots()):
                check_raises(self, BadLot, {"lot": value}, lying_counts, band, value)
        self.assertEqual(lying_counts(band, ".."), {"..": 1, "+.": 1, "++": 2})


class CountsTest(unittest.TestCase):
    def test_the_example(self):
        band = example()
        self.assertEqual([lying_counts(band, lot)["++"] for lot in band.lots()], [2, 1, 2, 1])
        self.assertEqual([plain_counts(band), signed_counts(band)],
                         [{"..": 0, "+.": 0, ".+": 1, "++": 1}, {"..": 1, "+.": -1, ".+": -1, "++": 1}])
        self.assertEqual([plain_counts(band=band), signed_counts(band=band)], [plain_counts(band), signed_counts(band)])
        self.assertEqual(list(plain_counts(band)), band.lots())
        self.assertEqual(list(signed_counts(band)), band.lots())

    def test_one_cell_and_12_cells(self):
        band = Band([("a", 4)], ["0", "3", "1"])
        self.assertEqual([plain_counts(band), signed_counts(band)], [{".": 2, "+": 1}, {".": -1, "+": 1}])
        band = Band([(name, 1) for name in "abcdefghijkl"], ["0" * 12])
        self.assertEqual([plain_counts(band), signed_counts(band)],
                         [{"." * 12: 0, "+" * 12: 1}, {"." * 12: -1, "+" * 12: 1}])

    def test_singles(self):
        """Each cell told alone: the signed counts are signs by the number of cells, the plain counts products."""
        band = Band([("a", 2), ("b", 3), ("c", 1)], ["0..", "1..", ".0.", ".1.", ".2.", "..0"])
        for lot in band.lots():
            untold = [at for at in range(3) if lot[at] == "."]
            self.assertEqual(signed_counts(band)[lot], (-1) ** len(untold))
            product = 1
            for at in untold:
                product *= (1, 2, 0)[at]
            self.assertEqual(plain_counts(band)[lot], product)

    def test_the_sums(self):
        for band in oracle.random_bands(43, 80):
            lots, signed, plain = band.lots(), signed_counts(band), plain_counts(band)
            self.assertEqual([list(signed), list(plain)], [lots, lots])
            self.assertEqual(signed[lots[-1]], 1)
            for lot in lots:
                higher = [other for other in lots if oracle.inside(lot, other)]
                self.assertEqual(sum(signed[other] for other in higher), 1 if lot == lots[-1] else 0)
                self.assertEqual(sum(plain[other] for other in higher), lying_counts(band, lot)[lots[-1]])

    def test_facts(self):
        for band in oracle.random_bands(44, 60):
            plain = plain_counts(band)
            self.assertTrue(all(count >= 0 for count in plain.values()))
            self.assertEqual(sum(plain.values()), len(band.full_rows()))

    def test_side_by_side(self):
        bands = oracle.random_bands(45, 20, 2)
        for band in bands:
            other = Band([(name * 2, many) for name, many in bands[0].cells()], bands[0].seeds())
            for counts in (plain_counts, signed_counts):
                right = {one + two: mine * theirs for one, mine in counts(band).items()
                         for two, theirs in counts(other).items()}
                self.assertEqual(counts(band * other), right)

    def test_the_band_above(self):
        for band in oracle.random_bands(46, 40):
            for row in band.rows():
                if "." in row:
                    for counts in (plain_counts, signed_counts):
                        right = {"".join(sign for sign, beside in zip(lot, row) if beside == "."): count
                                 for lot, count in counts(band).items() if oracle.inside(oracle.lot_of(row), lot)}
                        self.assertEqual(counts(band.above(row)), right)

    def test_many_lots(self):
        cells = [(name, 1) for name in "abcdefghi"]
        band = Band(cells, ["." * at + "0" + "." * (8 - at) for at in range(9)])
        plain = plain_counts(band)
        self.assertEqual([len(plain), sum(plain.values()), plain["+" * 9]], [512, 1, 1])
        self.assertEqual(sum(signed_counts(band).values()), 0)

    def test_answers_are_new(self):
        band = example()
        for call in (lambda: lying_counts(band, ".."), lambda: plain_counts(band), lambda: signed_counts(band)):
            right = call()
            call().clear()
            self.assertEqual(call(), right)
        rows_above(band, "..").clear()
        self.assertEqual(rows_above(band, ".."), band.rows())


if __name__ == "__main__":
    unittest.main()
