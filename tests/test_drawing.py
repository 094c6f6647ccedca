"""The interface under newesttells/drawing.py; promises [33], [34] and [35]."""

import itertools
import random
import unittest
from fractions import Fraction

import oracle
from helpers import any_values, check_raises, same
from newesttells.bands import Band
from newesttells.books import Book, even_book
from newesttells.drawing import (favour, first_tellers, forward_shares, product_of, steady_shares, teller_lists,
                                 visits)
from newesttells.errors import BadDeed, BadRow, IsFull, NotFull, NotInBand, Untold
from test_bands import rows_800, singles
from test_books import FRONTS, bad_rows, band_of_8, example, pair, shares_of, telling_books, v_of
from test_powers import fraction


def fractions_of(shares):
    return {row: fraction(share) for row, share in shares.items()}


def product_by_words(book, deeds):
    product, told = Fraction(1), "." * book.band.size
    for deed in deeds:
        product = product * shares_of(book)[deed] / (1 - v_of(book, oracle.lot_of(told)))
        told = oracle.over(told, deed)
    return product


def teller_lists_by_words(book, row):
    """All teller lists of a full row by the words of [33], ascending."""
    found = []
    for count in range(1, book.band.size + 1):
        for deeds in itertools.product(book.deeds(), repeat=count):
            standing, grows = "." * book.band.size, True
            for deed in deeds:
                further = oracle.over(standing, deed)
                grows = grows and further != standing
                standing = further
            if grows and standing == row:
                found.append(list(deeds))
    return sorted(found)


def steady_by_words(book):
    """The steady shares as sums of products."""
    shares = {row: sum(product_by_words(book, deeds) for deeds in teller_lists_by_words(book, row))
              for row in book.band.full_rows()}
    return {row: share for row, share in shares.items() if share}


def rank(lines):
    """The rank of a square list of lists of fractions."""
    lines, found = [list(line) for line in lines], 0
    for column in range(len(lines)):
        leading = [line for line in lines[found:] if line[column]]
        if leading:
            first = leading[0]
            rest = [line for line in lines[found:] if line is not first]
            rest = [[a - b * line[column] / first[column] for a, b in zip(line, first)] for line in rest]
            lines, found = lines[:found] + [first] + rest, found + 1
    return found


class SteadyTest(unittest.TestCase):
    def test_the_example(self):
        book = example()
        self.assertTrue(same([steady_shares(book), forward_shares(book), favour(book)],
                             [{"01": (1, 3), "11": (2, 3)}, {"01": (1, 6), "11": (5, 6)}, ("11", "01")]))

    def test_the_example_of_fronts(self):
        book = Book(FRONTS, {"00.": 3, "1.0": 2, ".11": 1})
        self.assertEqual(steady_shares(book)["000"], (1, 3))

    def test_against_the_teller_lists(self):
        for book in telling_books(800, 40):
            expected = {row: pair(share) for row, share in sorted(steady_by_words(book).items())}
            self.assertTrue(same(steady_shares(book), expected))

    def test_facts(self):
        source = random.Random(802)
        for book in telling_books(803, 40):
            steady = fractions_of(steady_shares(book))
            self.assertEqual(sum(steady.values()), 1)
            balanced = {}
            for (x, share), (g, other) in itertools.product(shares_of(book).items(), steady.items()):
                f = oracle.over(x, g)
                balanced[f] = balanced.get(f, 0) + share * other
            self.assertEqual(balanced, steady)
            names = source.sample(book.band.names(), source.randint(1, book.band.size))
            places = [at for at, name in enumerate(book.band.names()) if name in names]
            sums = {}
            for row, share in steady.items():
                signs = "".join(row[at] for at in places)
                sums[signs] = sums.get(signs, 0) + share
            self.assertEqual(fractions_of(steady_shares(book=book.onto(names))), sums)

    def test_no_other_shares_balance(self):
        for book in telling_books(805, 20):
            rows = book.band.full_rows()
            lines = [[Fraction(-1 if f == g else 0) for g in rows] for f in rows]
            for (x, share), g in itertools.product(shares_of(book).items(), rows):
                lines[rows.index(oracle.over(x, g))][rows.index(g)] += share
            self.assertEqual(rank(lines), len(rows) - 1)

    def test_steady_shares_are_near_what_many_deeds_leave(self):
        for book in telling_books(804, 20):
            steady = fractions_of(steady_shares(book))
            left = fractions_of(book.after(400))
            self.assertTrue(all(abs(left.get(row, 0) - share) < Fraction(1, 10 ** 9) for row, share in steady.items()))

    def test_forward_shares(self):
        for book in telling_books(806, 40):
            expected, backward = {}, {}
            for row in [row for row in book.band.rows() if "." in row]:
                many = fraction(visits(book, row))
                for deed, share in shares_of(book).items():
                    for sums, end in ((expected, oracle.over(deed, row)), (backward, oracle.over(row, deed))):
                        if "." not in end and many:
                            sums[end] = sums.get(end, 0) + many * share
            forward = forward_shares(book=book)
            self.assertTrue(same(forward, {row: pair(share) for row, share in sorted(expected.items())}))
            self.assertEqual(fractions_of(steady_shares(book)), backward)
            self.assertEqual(sum(fraction(share) for share in forward.values()), 1)

    def test_forward_shares_are_near_what_short_tapes_tell(self):
        book = example()
        told = {}
        waiting = {"..": Fraction(1)}
        for _ in range(60):
            further = {}
            for (row, chance), (deed, share) in itertools.product(waiting.items(), shares_of(book).items()):
                end = oracle.over(deed, row)
                target = further if "." in end else told
                target[end] = target.get(end, 0) + chance * share
            waiting = further
        forward = fractions_of(forward_shares(book))
        self.assertTrue(all(abs(told[row] - share) < Fraction(1, 10 ** 9) for row, share in forward.items()))

    def test_dicts_are_new(self):
        book = example()
        for call in (steady_shares, forward_shares, first_tellers):
            before = call(book)
            call(book).clear()
            self.assertEqual(call(book), before)


class VisitTest(unittest.TestCase):
    def test_against_the_powers(self):
        for book in telling_books(810, 40):
            for row in [row for row in book.band.rows() if "." in row]:
                powers = book.powers(row)
                self.assertTrue(same(visits(book, row), powers.sum_of_all()))
                mean = sum((fraction(a) / (1 - fraction(v)) for a, v in powers.parts()), Fraction(0))
                self.assertEqual(fraction(visits(book=book, row=row)), mean)

    def test_all_visits_are_the_mean_number_of_deeds(self):
        for book in telling_books(812, 20):
            many = sum(fraction(visits(book, row)) for row in book.band.rows() if "." in row)
            self.assertEqual(many, fraction(book.mean_told()))

    def test_edges(self):
        self.assertTrue(same(visits(Book(band_of_8(), {"11": 4}), ".."), (1, 1)))
        self.assertTrue(same(visits(Book(band_of_8(), {"11": 4}), "0."), (0, 1)))
        self.assertTrue(same(visits(Book(band_of_8(), {"11": 1, "..": 3}), ".."), (4, 1)))

    def test_wrong_rows(self):
        for value in bad_rows():
            check_raises(self, BadRow, {"row": value}, visits, example(), value)
        check_raises(self, NotInBand, {"row": "00"}, visits, example(), "00")
        check_raises(self, IsFull, {"row": "01"}, visits, example(), "01")


class TellerListTest(unittest.TestCase):
    def test_against_the_words(self):
        for book in telling_books(820, 40):
            for row in book.band.full_rows():
                self.assertTrue(same(list(teller_lists(book, row)), teller_lists_by_words(book, row)))

    def test_products(self):
        for book in telling_books(822, 40):
            for row in book.band.full_rows():
                for deeds in teller_lists(book=book, row=row):
                    self.assertTrue(same(product_of(book, deeds), pair(product_by_words(book, deeds))))
                    self.assertTrue(same(product_of(book=book, deeds=tuple(deeds[:1])),
                                         pair(product_by_words(book, deeds[:1]))))
        self.assertTrue(same(product_of(example(), []), (1, 1)))
        self.assertTrue(same([product_of(example(), [".1", "11"]), product_of(example(), ["11"])], [(1, 6), (1, 2)]))

    def test_rows_that_are_never_told(self):
        book = Book(band_of_8(), {"0.": 1, ".1": 1})
        self.assertEqual([list(teller_lists(book, "11")), list(teller_lists(book, "01"))],
                         [[], [[".1", "0."], ["0.", ".1"]]])
        self.assertEqual(steady_shares(book), {"01": (1, 1)})

    def test_very_many_lists(self):
        cells, seeds = singles(9, 1)
        book = even_book(Band(cells, seeds))
        told = teller_lists(book, "0" * 9)
        ascending = sorted(seeds)
        self.assertEqual([next(told), next(told)], [ascending, [*ascending[:-2], ascending[-1], ascending[-2]]])
        great = Band(*rows_800())
        many = teller_lists(Book(great, {row: 1 for row in great.rows()}), "00000")
        self.assertEqual(next(many), ["....0", "...0.", "..0..", ".0...", "0...."])

    def test_wrong_rows(self):
        for value in bad_rows():
            check_raises(self, BadRow, {"row": value}, lambda: next(teller_lists(example(), value)))
        check_raises(self, NotInBand, {"row": "00"}, lambda: next(teller_lists(example(), "00")))
        check_raises(self, NotFull, {"row": "0."}, lambda: next(teller_lists(example(), "0.")))
        check_raises(self, NotFull, {"row": ".."}, lambda: next(teller_lists(example(), "..")))

    def test_errors_come_with_the_first_item(self):
        told = teller_lists(example(), None)
        check_raises(self, BadRow, {"row": None}, next, told)
        told = teller_lists(Book(band_of_8(), {"0.": 1}), None)
        check_raises(self, Untold, {"cell": "b"}, next, told)

    def test_wrong_deeds(self):
        book = Book(band_of_8(), {"0.": 1, ".1": 1, "01": 1, "..": 1})
        for value in any_values() + [book, "00", "11", "..", ["0."], ("0.",)]:
            if value != "0.":
                check_raises(self, BadDeed, {"at": 0}, product_of, book, [value])
                check_raises(self, BadDeed, {"at": 1}, product_of, book, ["0.", value, None])
        check_raises(self, BadDeed, {"at": 1}, product_of, book, ["01", "0."])
        check_raises(self, BadDeed, {"at": 2}, product_of, book, ["0.", ".1", "01", None])
        check_raises(self, BadDeed, {"at": 1}, product_of, example(), ["11", "0."])
        self.assertEqual(product_of(book, ["0.", "01"]), (1, 6))

    def test_lists_are_new(self):
        told = teller_lists(example(), "11")
        next(told).clear()
        self.assertEqual(next(told), ["11"])
        self.assertEqual(list(teller_lists(example(), "11")), [[".1", "11"], ["11"]])


class FavourTest(unittest.TestCase):
    def test_against_the_shares(self):
        for book in telling_books(830, 40):
            steady, forward = fractions_of(steady_shares(book)), fractions_of(forward_shares(book))
            rows = book.band.full_rows()
            favoured = [row for row in rows if forward.get(row, 0) > steady.get(row, 0)]
            slighted = [row for row in rows if forward.get(row, 0) < steady.get(row, 0)]
            self.assertEqual(bool(favoured), bool(slighted))
            self.assertEqual(favour(book=book), (favoured[0], slighted[0]) if favoured else None)

    def test_books_without_favour(self):
        for book in (Book(band_of_8(), {"11": 4}), Book(Band([("a", 2)], ["0", "1"]), {"0": 1, "1": 2}),
                     Book(band_of_8(), {"0.": 1, ".1": 3}), Book(band_of_8(), {"01": 1, "11": 3, "..": 1})):
            self.assertIsNone(favour(book))
            self.assertEqual(steady_shares(book), forward_shares(book))

    def test_the_pair_is_a_tuple(self):
        self.assertTrue(same(favour(example()), ("11", "01")))

    def test_first_tellers(self):
        self.assertTrue(same(first_tellers(example()), {".1": (1, 4), "0.": (1, 4), "11": (1, 2)}))
        book = Book(band_of_8(), {"..": 5, "0.": 1, "11": 2})
        self.assertTrue(same(first_tellers(book=book), {"0.": (1, 3), "11": (2, 3)}))
        for some in telling_books(832, 30):
            first = first_tellers(some)
            self.assertEqual(list(first), [deed for deed in some.deeds() if "." * some.band.size != deed])
            self.assertEqual(sum(fractions_of(first).values()), 1)

    def test_untold_cells(self):
        for weights, cell in (({"0.": 1}, "b"), ({".1": 1}, "a"), ({"..": 2}, "a"), ({"..": 1, ".1": 1}, "a")):
            book = Book(band_of_8(), weights)
            for call in (steady_shares, forward_shares, favour, first_tellers):
                check_raises(self, Untold, {"cell": cell}, call, book)
            check_raises(self, Untold, {"cell": cell}, lambda: next(teller_lists(book, None)))
            check_raises(self, Untold, {"cell": cell}, product_of, book, [None])
            check_raises(self, Untold, {"cell": cell}, product_of, book, [])
            check_raises(self, Untold, {"cell": cell}, visits, book, None)

    def test_a_great_book(self):
        great = Band(*rows_800())
        source = random.Random(840)
        book = Book(great, {row: source.randint(1, 999) for row in great.rows()})
        steady, forward = fractions_of(steady_shares(book)), fractions_of(forward_shares(book))
        self.assertEqual([sum(steady.values()), sum(forward.values())], [1, 1])
        self.assertEqual(sum(first for first in fractions_of(first_tellers(book)).values()), 1)


if __name__ == "__main__":
    unittest.main()
