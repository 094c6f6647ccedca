"""The interface under newesttells/piles.py; promises [2], [11], [13], [39] and [40]."""

import itertools
import math
import unittest

import oracle
from helpers import any_values, check_raises, same
from newesttells.bands import Band
from newesttells.errors import BadPiles, BadThings, NotInBand
from newesttells.families import fewest_seeds
from newesttells.lots import lying_counts, plain_counts
from newesttells.piles import check_things, pair_cells, piles_band, piles_of, piles_row

THINGS = ("ab", "ba", "abc", "bac", "zxy", "abcd", "dbca", "qwer")


def wrong_things():
    """Values that are no things."""
    return [value for value in any_values() + ["abcde", "aa", "aba", "abca", "aB", "a1", "a b", "ab ", "ab\n", "AB",
                                               "a.", ["a", "b"], ("a", "b"), ["ab"], {"a": "b"}, b"ab"]
            if value != "ab"]


def all_heights(things):
    """All dicts from the things to the numbers of so many piles."""
    return [dict(zip(things, heights)) for heights in itertools.product(range(len(things)), repeat=len(things))]


def row_by_words(things, heights):
    """The row of [40] of things whose piles have these numbers."""
    signs = []
    for one, other in itertools.combinations(things, 2):
        signs.append("." if heights[one] == heights[other] else "0" if heights[one] < heights[other] else "1")
    return "".join(signs)


def piles_by_words(things, heights):
    piles = [[thing for thing in things if heights[thing] == number] for number in range(len(things))]
    return ["".join(pile) for pile in piles if pile]


def parting(things, lot):
    """The blocks of the parting with a lot: things without a cell of the lot between them lie in one block."""
    blocks = []
    signs = dict(zip(itertools.combinations(things, 2), lot))
    for thing in things:
        for block in blocks:
            if signs[block[0], thing] == ".":
                block.append(thing)
                break
        else:
            blocks.append([thing])
    return blocks


class ThingsTest(unittest.TestCase):
    def test_things(self):
        for things in THINGS:
            self.assertIsNone(check_things(things))
        self.assertIsNone(check_things(things="xy"))
        for value in wrong_things():
            check_raises(self, BadThings, {}, check_things, value)

    def test_pair_cells(self):
        self.assertTrue(same(pair_cells("bac"), [("ba", 2), ("bc", 2), ("ac", 2)]))
        self.assertTrue(same(pair_cells(things="zy"), [("zy", 2)]))
        self.assertTrue(same(pair_cells("dbca"), [("db", 2), ("dc", 2), ("da", 2), ("bc", 2), ("ba", 2), ("ca", 2)]))
        for value in wrong_things():
            check_raises(self, BadThings, {}, pair_cells, value)
        pair_cells("ab").clear()
        self.assertEqual(len(pair_cells("ab")), 1)


class BandTest(unittest.TestCase):
    def test_rows_and_seeds(self):
        for things in THINGS:
            rows = sorted({row_by_words(things, heights) for heights in all_heights(things)})
            self.assertEqual(len(rows), {2: 3, 3: 13, 4: 75}[len(things)])
            band = piles_band(things)
            self.assertEqual(band.rows(), rows)
            self.assertEqual(band.cells(), pair_cells(things))
            self.assertEqual(band.seeds(), fewest_seeds(band))
            if len(things) < 4:
                self.assertEqual(band.seeds(), oracle.seeds_of(rows))

    def test_two_things(self):
        self.assertEqual(piles_band(things="ba"), Band([("ba", 2)], ["0", "1"]))
        self.assertEqual(len(piles_band("abcd").seeds()), 14)

    def test_wrong_things(self):
        for value in wrong_things():
            check_raises(self, BadThings, {}, piles_band, value)
            check_raises(self, BadThings, {}, piles_row, value, None)
            check_raises(self, BadThings, {}, piles_of, value, None)

    def test_over_lays_the_piles_apart(self):
        for things in ("abc", "cab"):
            for one, other in itertools.product(all_heights(things), repeat=2):
                apart = {thing: 10 * one[thing] + other[thing] for thing in things}
                ranks = sorted(set(apart.values()))
                expected = row_by_words(things, {thing: ranks.index(apart[thing]) for thing in things})
                self.assertEqual(oracle.over(row_by_words(things, one), row_by_words(things, other)), expected)

    def test_counts(self):
        for things in THINGS:
            band = piles_band(things)
            every = "+" * band.size
            counts = plain_counts(band)
            partings = set()
            for lot in band.lots():
                blocks = parting(things, lot)
                partings.add(tuple(map(tuple, blocks)))
                self.assertEqual(lying_counts(band, lot)[every], math.prod(math.factorial(len(b)) for b in blocks))
                self.assertEqual(counts[lot], math.prod(math.factorial(len(b) - 1) for b in blocks))
            # Each parting of the things has a lot.
            self.assertEqual([len(partings), len(band.lots())], [{2: 2, 3: 5, 4: 15}[len(things)]] * 2)


class RowTest(unittest.TestCase):
    def test_there_and_back(self):
        for things in THINGS:
            for heights in all_heights(things):
                piles = piles_by_words(things, heights)
                row = row_by_words(things, heights)
                self.assertTrue(same(piles_row(things, piles), row))
                self.assertTrue(same(piles_row(things, tuple(pile[::-1] for pile in piles)), row))
                self.assertTrue(same(piles_of(things, row), piles))

    def test_one_pile_and_as_many_as_things(self):
        self.assertTrue(same([piles_row("bac", ["cab"]), piles_of("bac", "...")], ["...", ["bac"]]))
        self.assertTrue(same([piles_row("bac", ["c", "b", "a"]), piles_of("bac", "011")], ["011", ["c", "b", "a"]]))
        self.assertEqual(piles_row(things="bac", piles=("a", "cb")), "1.0")
        self.assertEqual(piles_of(things="bac", row="1.0"), ["a", "bc"])

    def test_wrong_piles(self):
        for value in any_values() + [["a"], ["ab"], ["abc", ""], ["", "abc"], ["a", "b", "c", "a"], ["abcc"], ["abca"],
                                     ["ab", "bc"], ["ab", "d"], ["abcd"], ["abC"], "abc", {"abc": 1}, [["a", "b", "c"]],
                                     ["ab", ["c"]], ["ab", ("c",)], ["ab", None], ["ab", "c", 1], ["ab", "c\n"],
                                     ["ab", "c", True], ["a b c"], [{"abc": 1}], ("a", "b"), piles_band("ab")]:
            check_raises(self, BadPiles, {}, piles_row, "abc", value)
        self.assertEqual(piles_row("abc", ["a", "b", "c"]), "000")

    def test_rows_that_are_none(self):
        band = piles_band("abc")
        for value in any_values() + ["0.0", "00.0", "0 0", "010", "101", "..0", "0..", "002", "+++", band, ["..."],
                                     ("...",), {"...": 1}]:
            self.assertNotIn(value, band)
            check_raises(self, NotInBand, {"row": value}, piles_of, "abc", value)

    def test_every_string_of_signs(self):
        for things in ("ab", "abc", "cadb"):
            band = piles_band(things)
            for row in oracle.all_rows(band.cells()):
                if row in band:
                    self.assertEqual(piles_row(things, piles_of(things, row)), row)
                else:
                    check_raises(self, NotInBand, {"row": row}, piles_of, things, row)

    def test_lists_are_new(self):
        piles = ["b", "ac"]
        piles_row("abc", piles)
        self.assertEqual(piles, ["b", "ac"])
        piles_of("abc", "1.0").clear()
        self.assertEqual(piles_of("abc", "1.0"), ["b", "ac"])


if __name__ == "__main__":
    unittest.main()
