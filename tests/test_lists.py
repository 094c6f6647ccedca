"""The interface under newesttells/lists.py; promises [33], [39] and [42]."""

import itertools
import random
import unittest
from fractions import Fraction

import oracle
from helpers import any_values, check_raises, same
from newesttells.bands import Band
from newesttells.books import Book
from newesttells.drawing import steady_shares
from newesttells.errors import BadPiles, BadThings, NotInBand
from newesttells.families import fewest_seeds
from newesttells.lists import list_of, list_row, lists_band
from newesttells.piles import pair_cells
from test_books import pair, shares_of
from test_fronts import fronts, wrong_strings
from test_piles import THINGS, wrong_things


def row_by_words(things, used):
    """The row of [42]."""
    signs = ["0" if thing in used else "." for thing in things]
    for one, other in itertools.combinations(things, 2):
        if one not in used and other not in used:
            signs.append(".")
        elif one in used and (other not in used or used.index(other) > used.index(one)):
            signs.append("0")
        else:
            signs.append("1")
    return "".join(signs)


class BandTest(unittest.TestCase):
    def test_rows_and_seeds(self):
        for things in THINGS:
            rows = sorted(row_by_words(things, used) for used in fronts(things))
            self.assertEqual(len(set(rows)), {2: 5, 3: 16, 4: 65}[len(things)])
            band = lists_band(things)
            self.assertEqual(band.rows(), rows)
            self.assertEqual(band.cells(), [(thing, 1) for thing in things] + pair_cells(things))
            self.assertEqual(band.seeds(), fewest_seeds(band))
            self.assertEqual(sorted(band.seeds()), sorted(row_by_words(things, thing) for thing in things))

    def test_the_seeds_in_order(self):
        self.assertEqual(lists_band(things="ba"), Band([("b", 1), ("a", 1), ("ba", 2)], ["0.0", ".01"]))
        self.assertEqual(lists_band("bac").cells(), [("b", 1), ("a", 1), ("c", 1), ("ba", 2), ("bc", 2), ("ac", 2)])
        self.assertEqual(lists_band("abc").seeds(), ["0..00.", ".0.1.0", "..0.11"])

    def test_over_lays_lists_over_one_another(self):
        for things in ("ab", "cab"):
            for x, y in itertools.product(fronts(things), repeat=2):
                behind = x + "".join(thing for thing in y if thing not in x)
                self.assertEqual(oracle.over(row_by_words(things, x), row_by_words(things, y)),
                                 row_by_words(things, behind))

    def test_steady_shares(self):
        source = random.Random(1100)
        for things in ("ab", "bca", "abcd"):
            book = Book(lists_band(things), {row_by_words(things, thing): source.randint(1, 9) for thing in things})
            expected = {}
            for used in itertools.permutations(things):
                left, product = Fraction(1), Fraction(1)
                for thing in used:
                    share = shares_of(book)[row_by_words(things, thing)]
                    product = product * share / left
                    left = left - share
                expected[row_by_words(things, "".join(used))] = pair(product)
            self.assertEqual(steady_shares(book), expected)

    def test_wrong_things(self):
        for value in wrong_things():
            check_raises(self, BadThings, {}, lists_band, value)
            check_raises(self, BadThings, {}, list_row, value, None)
            check_raises(self, BadThings, {}, list_of, value, None)


class RowTest(unittest.TestCase):
    def test_there_and_back(self):
        for things in THINGS:
            for used in fronts(things):
                row = row_by_words(things, used)
                self.assertTrue(same(list_row(things, used), row))
                self.assertTrue(same(list_of(things, row), used))

    def test_edges(self):
        self.assertTrue(same([list_row("bac", ""), list_of("bac", "......")], ["......", ""]))
        # The last thing of a full list is told by its own cell alone.
        self.assertTrue(same([list_row("bac", "ca"), list_row("bac", "cab")], [".00111", "000111"]))
        self.assertEqual([list_row(things="ab", used="b"), list_of(things="ab", row=".01")], [".01", "b"])

    def test_wrong_lists(self):
        for value in wrong_strings():
            check_raises(self, BadPiles, {}, list_row, "abc", value)

    def test_rows_that_are_none(self):
        for value in any_values() + ["...", "0.....", "0..0..", "...00.", "000010", "0..00.0", "1..00.",
                                     lists_band("ab"), ["......"], {"......": 1}]:
            check_raises(self, NotInBand, {"row": value}, list_of, "abc", value)
        for things in ("ab", "cab"):
            band = lists_band(things)
            for row in oracle.all_rows(band.cells()):
                if row in band:
                    self.assertEqual(list_row(things, list_of(things, row)), row)
                else:
                    check_raises(self, NotInBand, {"row": row}, list_of, things, row)


if __name__ == "__main__":
    unittest.main()
