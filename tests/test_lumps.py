"""The interface under newesttells/lumps.py; promises [2], [38] and [46]."""

import itertools
import random
import unittest
from fractions import Fraction

import oracle
from helpers import any_values, check_raises, same
from newesttells.bands import Band
from newesttells.books import Book, even_book
from newesttells.errors import BadLumps, BadNumber, Broken
from newesttells.fronts import fronts_band
from newesttells.lumps import check_lumps, least_lumps, lump_after, lump_of, lumps_break
from newesttells.worths import pieces
from test_bands import rows_800
from test_books import band_of_8, drawn, example, pair, some_book, wrong_numbers
from test_powers import fraction

SQUARE = Band([("a", 2), ("b", 2)], ["0.", "1.", ".0", ".1"])


def parts_of(rows):
    """All ways to part a list of rows into lists."""
    if not rows:
        return [[]]
    found = []
    for parts in parts_of(rows[1:]):
        found.append([[rows[0]], *parts])
        found.extend(parts[:at] + [[rows[0], *part]] + parts[at + 1:] for at, part in enumerate(parts))
    return found


def home(lumps, row):
    return [at for at, lump in enumerate(lumps) if row in lump][0]


def break_by_words(band, lumps):
    """The first break by the order of [46]'s entry: first seed, least f, least g."""
    for seed in band.seeds():
        for f, g in itertools.product(band.full_rows(), repeat=2):
            if home(lumps, f) == home(lumps, g):
                if home(lumps, oracle.over(seed, f)) != home(lumps, oracle.over(seed, g)):
                    return seed, f, g
    return None


def random_lumps(source, rows):
    lumps = []
    for row in source.sample(rows, len(rows)):
        at = source.randint(0, len(lumps))
        if at == len(lumps):
            lumps.append([])
        lumps[at].append(row)
    return lumps


def wrong_lumps():
    """Values that are no lumps for the band of [8], whose full rows are 01 and 11."""
    return any_values() + [[["01"]], [["11"], ["01"], []], [[], ["01", "11"]], [["01", "11"], ["11"]],
                           [["01", "01", "11"]],
                           [["01"], ["11"], ["00"]], [["01", "11", ".."]], [["01", "0."]], ["01", "11"],
                           [("01", "11"), 1],
                           [["01", "11"], None], [["01", 11]], [["01", None]], [["01", ["11"]]], [[["01"], ["11"]]],
                           [{"01": 1, "11": 2}], {"01": ["11"]}, ["0111"], "0111", [["01", True]], [["0111"]],
                           example(), [example()], [[example()]]]


class CheckTest(unittest.TestCase):
    def test_lumps(self):
        for lumps in ([["01", "11"]], (("11", "01"),), [["11"], ("01",)], (["01"], ["11"])):
            self.assertIsNone(check_lumps(band_of_8(), lumps))
            self.assertIsNone(check_lumps(band=band_of_8(), lumps=lumps))
        source = random.Random(1400)
        for band in oracle.random_bands(1401, 30):
            check_lumps(band, random_lumps(source, band.full_rows()))

    def test_wrong_lumps(self):
        for value in wrong_lumps():
            check_raises(self, BadLumps, {}, check_lumps, band_of_8(), value)
            check_raises(self, BadLumps, {}, lump_after, example(), value, None, None)

    def test_lump_of(self):
        lumps = [["11"], ("01",)]
        self.assertTrue(same([lump_of(lumps, "01"), lump_of(lumps, "11")], [1, 0]))
        self.assertEqual(lump_of(lumps=tuple(lumps), row="01"), 1)
        source = random.Random(1402)
        for band in oracle.random_bands(1403, 20):
            lumps = random_lumps(source, band.full_rows())
            self.assertEqual([lump_of(lumps, row) for row in band.full_rows()],
                             [home(lumps, row) for row in band.full_rows()])


class BreakTest(unittest.TestCase):
    def test_one_list_and_one_row_each(self):
        for band in oracle.random_bands(1410, 40):
            self.assertIsNone(lumps_break(band, [band.full_rows()]))
            self.assertIsNone(lumps_break(band=band, lumps=[[row] for row in band.full_rows()]))

    def test_the_lumps_of_some_cells_hold(self):
        self.assertIsNone(lumps_break(SQUARE, [["00", "01"], ["10", "11"]]))
        self.assertIsNone(lumps_break(SQUARE, (("11", "01"), ("00", "10"))))

    def test_breaks(self):
        self.assertTrue(same(lumps_break(SQUARE, [["00", "11"], ["01"], ["10"]]), ("0.", "00", "11")))
        self.assertTrue(same(lumps_break(SQUARE, [["01", "10"], ["11"], ["00"]]), ("0.", "01", "10")))
        self.assertTrue(same(lumps_break(SQUARE, [["00"], ["11", "10", "01"]]), ("0.", "01", "10")))
        band = Band([("a", 2), ("b", 2)], [".1", "1.", "0.", ".0"])
        self.assertEqual(lumps_break(band, [["11"], ["10", "01", "00"]]), (".1", "00", "10"))

    def test_against_the_words(self):
        source = random.Random(1411)
        broken = 0
        for band in oracle.random_bands(1412, 80):
            for _ in range(6):
                lumps = random_lumps(source, band.full_rows())
                expected = break_by_words(band, lumps)
                self.assertTrue(same(lumps_break(band, lumps), expected))
                broken += expected is not None
        self.assertGreater(broken, 40)

    def test_all_rows_do_as_the_seeds(self):
        for band in oracle.random_bands(1413, 60, 3):
            for lumps in parts_of(band.full_rows()[:6]):
                if len(band.full_rows()) <= 6 and lumps_break(band, lumps) is None:
                    for row, lump in itertools.product(band.rows(), lumps):
                        self.assertEqual(len({home(lumps, oracle.over(row, f)) for f in lump}), 1)


class LeastTest(unittest.TestCase):
    def check(self, band, pairs):
        lumps = least_lumps(band, pairs)
        self.assertEqual(sorted(row for lump in lumps for row in lump), band.full_rows())
        self.assertEqual(lumps, sorted(sorted(lump) for lump in lumps))
        self.assertTrue(all(home(lumps, one) == home(lumps, other) for one, other in pairs))
        self.assertIsNone(lumps_break(band, lumps))
        return lumps

    def test_the_least_of_all(self):
        source = random.Random(1420)
        for band in oracle.random_bands(1421, 60, 3):
            rows = band.full_rows()
            if len(rows) <= 6:
                held = [lumps for lumps in parts_of(rows) if break_by_words(band, lumps) is None]
                for _ in range(3):
                    pairs = [tuple(source.choices(rows, k=2)) for _ in range(source.randint(0, 3))]
                    least = self.check(band, pairs)
                    for lumps in held:
                        if all(home(lumps, one) == home(lumps, other) for one, other in pairs):
                            for lump in least:
                                self.assertEqual(len({home(lumps, row) for row in lump}), 1)

    def test_no_pairs_and_equal_pairs(self):
        self.assertTrue(same(least_lumps(SQUARE, []), [["00"], ["01"], ["10"], ["11"]]))
        self.assertTrue(same(least_lumps(SQUARE, [("01", "01"), ("01", "01")]), [["00"], ["01"], ["10"], ["11"]]))
        self.assertTrue(same(least_lumps(band=SQUARE, pairs=(("01", "11"),)), [["00", "10"], ["01", "11"]]))
        self.assertTrue(same(least_lumps(SQUARE, [("11", "00")]), [["00", "01", "10", "11"]]))

    def test_great_bands(self):
        band = Band(*rows_800())
        rows = band.full_rows()
        self.assertEqual(least_lumps(band, []), [[row] for row in rows])
        self.assertEqual(self.check(band, [(rows[0], row) for row in rows]), [rows])
        self.check(band, [(rows[0], rows[1])])
        full = Band([("a", 4), ("b", 4)], ["".join(signs) for signs in itertools.product("0123", repeat=2)])
        self.assertEqual(len(self.check(full, [("00", "33"), ("33", "12")])), 14)

    def test_wrong_pairs(self):
        for value in any_values() + [[("01",)], [("01", "11", "01")], [["01", "11"]], ["01"], [("01", "0.")],
                                     [("00", "01")], [("01", None)], [(["01"], "11")], [("01", "11"), None], "0111",
                                     [("01", "11"), ("01", "1.")], {("01", "11"): 1}, ["0111"], [True],
                                     (("01", 11),), example(), [("01", example())]]:
            if value != [] and value != ():
                check_raises(self, BadLumps, {}, least_lumps, band_of_8(), value)
        self.assertEqual(least_lumps(band_of_8(), ()), [["01"], ["11"]])

    def test_pairs_stay_and_lists_are_new(self):
        pairs = [("00", "11")]
        least_lumps(SQUARE, pairs)[0].clear()
        self.assertEqual([pairs, len(least_lumps(SQUARE, pairs)[0])], [[("00", "11")], 4])


class AfterTest(unittest.TestCase):
    def test_against_the_words(self):
        source = random.Random(1430)
        for band in oracle.random_bands(1431, 50, 3):
            rows = band.full_rows()
            book = some_book(source, band)
            lumps = least_lumps(band, [tuple(source.choices(rows, k=2)) for _ in range(source.randint(0, 2))])
            source.shuffle(lumps)
            for at, t in itertools.product(range(len(lumps)), range(6)):
                for f in lumps[at]:
                    expected = {}
                    for x, chance in drawn(book, t).items():
                        to = home(lumps, oracle.over(x, f))
                        expected[to] = expected.get(to, Fraction(0)) + chance
                    expected = {to: pair(expected[to]) for to in sorted(expected)}
                    self.assertTrue(same(lump_after(book, lumps, at, t), expected))

    def test_edges(self):
        book = even_book(SQUARE)
        lumps = [["00", "01"], ("11", "10")]
        self.assertTrue(same(lump_after(book, lumps, 1, 0), {1: (1, 1)}))
        self.assertTrue(same(lump_after(book=book, lumps=tuple(lumps), lump=1, t=1), {0: (1, 4), 1: (3, 4)}))
        late = lump_after(book, lumps, 0, 400)
        self.assertEqual([list(late), sum(map(fraction, late.values()))], [[0, 1], 1])
        self.assertTrue(same(lump_after(book, [SQUARE.full_rows()], 0, 400), {0: (1, 1)}))
        # A book may leave a cell untold.
        self.assertTrue(same(lump_after(Book(SQUARE, {"1.": 2}), lumps, 0, 400), {1: (1, 1)}))
        fronts = fronts_band("abc")
        book = Book(fronts, {"00.": 3, "1.0": 2, ".11": 1})
        lumps = [[row for row in fronts.full_rows() if row[0] == sign] for sign in "01"]
        self.assertEqual(lump_after(book, lumps, 0, 1), {0: (2, 3), 1: (1, 3)})

    def test_the_order_of_errors(self):
        torn = [["01", "10"], ["11"], ["00"]]
        check_raises(self, BadLumps, {}, lump_after, even_book(SQUARE), torn[1:], 9, -1)
        check_raises(self, Broken, {"seed": "0.", "one": "01", "other": "10"}, lump_after, even_book(SQUARE), torn, 9,
                     -1)
        # Lumps must hold for the seeds of the band, whatever the book has.
        check_raises(self, Broken, {"seed": "0.", "one": "01", "other": "10"}, lump_after, Book(SQUARE, {"..": 1}),
                     torn, 0, 0)
        lumps = [["00", "01"], ["11", "10"]]
        for value in wrong_numbers(0, 1):
            check_raises(self, BadNumber, {"value": value}, lump_after, even_book(SQUARE), lumps, value, -1)
        for value in wrong_numbers(0, 400):
            check_raises(self, BadNumber, {"value": value}, lump_after, even_book(SQUARE), lumps, 1, value)

    def test_questions_that_are_even_on_lumps(self):
        """The pieces are even on them, too, and what drawn deeds make of the lump gives the mean."""
        source = random.Random(1432)
        for band in oracle.random_bands(1433, 40, 3):
            rows = band.full_rows()
            book = some_book(source, band)
            lumps = least_lumps(band, [tuple(source.choices(rows, k=2)) for _ in range(2)])
            numbers = [source.randint(-4, 4) for _ in lumps]
            question = {row: numbers[home(lumps, row)] for row in rows}
            found = pieces(book, question)
            for piece in found.values():
                self.assertTrue(all(len({piece[row] for row in lump}) == 1 for lump in lumps))
            for at, t in itertools.product(range(len(lumps)), (0, 1, 3)):
                mean = sum(fraction(share) * numbers[to] for to, share in lump_after(book, lumps, at, t).items())
                told = sum(fraction(piece[lumps[at][0]]) * fraction(v) ** t for v, piece in found.items())
                self.assertEqual(told, mean)

    def test_arguments_stay_and_dicts_are_new(self):
        lumps = [["11", "10"], ["00", "01"]]
        lump_after(even_book(SQUARE), lumps, 0, 3).clear()
        lumps_break(SQUARE, lumps)
        self.assertEqual(lumps, [["11", "10"], ["00", "01"]])
        self.assertEqual(len(lump_after(even_book(SQUARE), lumps, 0, 3)), 2)


if __name__ == "__main__":
    unittest.main()
