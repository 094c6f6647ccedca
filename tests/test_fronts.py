"""The interface under newesttells/fronts.py; promises [13], [33], [39] and [41]."""

import itertools
import unittest

import oracle
from helpers import any_values, check_raises, same
from newesttells.bands import Band
from newesttells.books import Book
from newesttells.drawing import steady_shares
from newesttells.errors import BadPiles, BadThings, NotInBand
from newesttells.families import fewest_seeds
from newesttells.fronts import front_of, front_row, fronts_band
from newesttells.lots import plain_counts
from newesttells.piles import pair_cells, piles_band, piles_row
from test_piles import THINGS, parting, wrong_things


def fronts(things):
    """All strings of different things."""
    return ["".join(front) for many in range(len(things) + 1) for front in itertools.permutations(things, many)]


def row_by_words(things, front):
    """The row of [41]: the things of the front one by one, and the others in one pile behind them."""
    behind = "".join(thing for thing in things if thing not in front)
    return piles_row(things, [*front, behind] if behind else list(front))


def wrong_strings():
    """Values that are no string of some of the things abc."""
    return [value for value in any_values() + ["aa", "aba", "abcd", "d", "A", "a b", "a\n", ["a"], ("a",), {"a": 1},
                                               piles_band("ab"), "abca", "..."]
            if value not in ("", "a")]


def still_free(things):
    """The number of orders of things in which none keeps its place."""
    return sum(all(x != y for x, y in zip(things, order)) for order in itertools.permutations(things))


class BandTest(unittest.TestCase):
    def test_rows_and_seeds(self):
        for things in THINGS:
            rows = sorted({row_by_words(things, front) for front in fronts(things)})
            self.assertEqual(len(rows), {2: 3, 3: 10, 4: 41}[len(things)])
            band = fronts_band(things)
            self.assertEqual(band.rows(), rows)
            self.assertEqual(band.cells(), pair_cells(things))
            self.assertEqual(band.seeds(), fewest_seeds(band))
            self.assertEqual(sorted(band.seeds()), sorted(row_by_words(things, thing) for thing in things))
            self.assertTrue(all(row in piles_band(things) for row in rows))

    def test_the_seeds_in_order(self):
        self.assertEqual(fronts_band(things="abc"), Band([("ab", 2), ("ac", 2), ("bc", 2)], ["00.", "1.0", ".11"]))
        self.assertEqual(fronts_band("ba"), Band([("ba", 2)], ["0", "1"]))
        self.assertEqual(fronts_band("abcd").seeds(), ["000...", "1..00.", ".1.1.0", "..1.11"])

    def test_over_moves_to_the_front(self):
        for things in ("abc", "cab"):
            for x, y in itertools.product(fronts(things), repeat=2):
                moved = x + "".join(thing for thing in y if thing not in x)
                self.assertEqual(oracle.over(row_by_words(things, x), row_by_words(things, y)),
                                 row_by_words(things, moved))

    def test_counts(self):
        for things in THINGS:
            counts = plain_counts(fronts_band(things))
            for lot, count in counts.items():
                behind = [block for block in parting(things, lot) if len(block) > 1]
                self.assertLessEqual(len(behind), 1)
                self.assertEqual(count, still_free(behind[0] if behind else []))

    def test_the_example(self):
        book = Book(fronts_band("abc"), {"00.": 3, "1.0": 2, ".11": 1})
        self.assertEqual([book.mean_told(), steady_shares(book)["000"]], [(27, 10), (1, 3)])
        self.assertEqual(book.all_told().parts(), [((2, 1), (0, 1)), ((-1, 1), (1, 6)), ((-1, 1), (1, 3)),
                                                   ((-1, 1), (1, 2)), ((1, 1), (1, 1))])

    def test_wrong_things(self):
        for value in wrong_things():
            check_raises(self, BadThings, {}, fronts_band, value)
            check_raises(self, BadThings, {}, front_row, value, None)
            check_raises(self, BadThings, {}, front_of, value, None)


class RowTest(unittest.TestCase):
    def test_there_and_back(self):
        for things in THINGS:
            for front in fronts(things):
                row = row_by_words(things, front)
                self.assertTrue(same(front_row(things, front), row))
                # If one thing alone lies behind the others, it lies alone too.
                rest = "".join(thing for thing in things if thing not in front)
                self.assertTrue(same(front_of(things, row), front + rest if len(rest) == 1 else front))

    def test_edges(self):
        self.assertTrue(same([front_row("bac", ""), front_of("bac", "...")], ["...", ""]))
        self.assertTrue(same([front_row("bac", "ca"), front_row("bac", "cab"), front_of("bac", "111")],
                             ["111", "111", "cab"]))
        self.assertEqual([front_row(things="ab", front="b"), front_of(things="ab", row="1")], ["1", "ba"])

    def test_wrong_fronts(self):
        for value in wrong_strings():
            check_raises(self, BadPiles, {}, front_row, "abc", value)

    def test_rows_that_are_none(self):
        for value in any_values() + [".00", "0.0", "00.0", "010", "11.", fronts_band("ab"), ["..."], {"...": 1}]:
            check_raises(self, NotInBand, {"row": value}, front_of, "abc", value)
        for things in ("ab", "abc", "cadb"):
            band = fronts_band(things)
            for row in oracle.all_rows(band.cells()):
                if row in band:
                    self.assertEqual(front_row(things, front_of(things, row)), row)
                else:
                    check_raises(self, NotInBand, {"row": row}, front_of, things, row)


if __name__ == "__main__":
    unittest.main()
