"""The interface under newesttells/worths.py; promises [2], [37] and [38]."""

import itertools
import random
import unittest
from fractions import Fraction

import oracle
from helpers import any_values, check_raises, same
from newesttells.bands import Band
from newesttells.books import Book, even_book
from newesttells.drawing import steady_shares
from newesttells.errors import BadQuestion, BadRow, NotFull, NotInBand, Untold
from newesttells.lots import plain_counts
from newesttells.powers import Powers
from newesttells.worths import mean_powers, pieces, steady_mean, trace, worths
from test_bands import rows_800
from test_books import FRONTS, bad_rows, band_of_8, drawn, example, pair, shares_of, some_books, telling_books, v_of
from test_powers import fraction

GREAT = 10 ** 31 - 1


def random_question(source, band, least=-5, most=5):
    return {row: source.randint(least, most) for row in band.full_rows()}


def led(book, values):
    """For each full row f, the sum over all deeds x of the share of x times the value of x over f."""
    return {f: sum(share * values[oracle.over(x, f)] for x, share in shares_of(book).items()) for f in values}


def mean_by_words(book, question, f, t):
    return sum((chance * question[oracle.over(x, f)] for x, chance in drawn(book, t).items()), Fraction(0))


def questions_of_zeros(band):
    return {row: 0 for row in band.full_rows()}


def wrong_questions():
    """Values that are no question for the band of [8], whose full rows are 01 and 11."""
    made = [{}, {"01": 1}, {"01": 1, "11": 2, "00": 3}, {"01": 1, "00": 2}, {"01": 1, "11": 2, "..": 3},
            {"01": True, "11": 2}, {"01": 1, "11": False}, {"01": 1, "11": None}, {"01": 1, "11": (2, 1)},
            {"01": "1", "11": 2}, {"01": [1], "11": 2}, {"01": 1, 11: 2}, {"01": 1, ("11",): 2}, {"0.": 1, ".1": 2},
            [("01", 1), ("11", 2)], ["01", "11"], (1, 2), example(), Powers()]
    return any_values() + made


class TraceTest(unittest.TestCase):
    def test_the_example(self):
        book = example()
        # m(S) is 0, 0, 1, 1 for the lots .., +., .+ and ++.
        self.assertTrue(same(trace(book).parts(), [((1, 1), (1, 4)), ((1, 1), (1, 1))]))
        self.assertTrue(same(worths(book), {(1, 4): 1, (1, 1): 1}))

    def test_against_the_words(self):
        for book in some_books(1000, 60):
            counts = plain_counts(book.band)
            expected = Powers([((count, 1), pair(v_of(book, lot))) for lot, count in counts.items()])
            self.assertEqual(trace(book=book), expected)
            sums = {}
            for lot, count in counts.items():
                if count > 0:
                    sums[v_of(book, lot)] = sums.get(v_of(book, lot), 0) + count
            self.assertTrue(same(worths(book=book), {pair(v): sums[v] for v in sorted(sums)}))

    def test_the_trace_counts_what_stays(self):
        for book in some_books(1002, 60):
            for t in range(4):
                left = drawn(book, t)
                mean = sum(chance for x, chance in left.items() for f in book.band.full_rows()
                           if oracle.over(x, f) == f)
                self.assertTrue(same(trace(book)(t), pair(Fraction(mean))))

    def test_multiplicities_sum_to_the_full_rows(self):
        for book in some_books(1004, 60):
            self.assertEqual(sum(worths(book).values()), len(book.band.full_rows()))
            self.assertEqual(trace(book)(0), (len(book.band.full_rows()), 1))
            self.assertIn((1, 1), worths(book))
            self.assertEqual(trace(book).parts(), [((count, 1), v) for v, count in worths(book).items()])

    def test_keys_ascend_by_their_values(self):
        band = Band([("a", 2), ("b", 2)], ["0.", "1.", ".0", ".1"])
        book = Book(band, {"0.": 2, ".0": 9, "..": 1})
        self.assertEqual(list(worths(book)), [(1, 12), (1, 4), (5, 6), (1, 1)])

    def test_equal_v_of_several_lots(self):
        band = Band([("a", 2), ("b", 2)], ["0.", "1.", ".0", ".1"])
        self.assertTrue(same(worths(even_book(band)), {(0, 1): 1, (1, 2): 2, (1, 1): 1}))
        self.assertTrue(same(worths(Book(band, {"..": 3})), {(1, 1): 4}))
        self.assertTrue(same(trace(Book(band, {"..": 3})).parts(), [((4, 1), (1, 1))]))
        self.assertTrue(same(worths(Book(band, {"00": 1})), {(0, 1): 3, (1, 1): 1}))

    def test_a_book_of_great_weights(self):
        book = Book(band_of_8(), {"0.": 999, ".1": 998, "11": 997})
        for _ in range(4):
            book = book.and_then(book)
        self.assertEqual(worths(book), {book.share_within(".+"): 1, (1, 1): 1})

    def test_dicts_are_new(self):
        book = example()
        worths(book).clear()
        trace(book).parts().clear()
        self.assertEqual([len(worths(book)), len(trace(book))], [2, 2])


class PieceTest(unittest.TestCase):
    def check(self, book, question):
        """Checks all that [38] says of pieces, from its words."""
        found = pieces(book, question)
        rows = book.band.full_rows()
        self.assertEqual(list(found), sorted(found, key=fraction))
        self.assertEqual([v for v in found if v not in worths(book)], [])
        sums = {row: Fraction(0) for row in rows}
        for v, piece in found.items():
            self.assertEqual(list(piece), rows)
            values = {row: fraction(one) for row, one in piece.items()}
            self.assertTrue(same(piece, {row: pair(one) for row, one in values.items()}))
            self.assertTrue(any(values.values()))
            self.assertEqual(led(book, values), {row: fraction(v) * one for row, one in values.items()})
            sums = {row: sums[row] + values[row] for row in rows}
        self.assertEqual(sums, question)
        return found

    def test_the_example(self):
        book = example()
        found = self.check(book, {"01": 3, "11": 0})
        # The steady shares are 1/3 and 2/3, so that the steady mean is 1.
        self.assertTrue(same(found, {(1, 4): {"01": (2, 1), "11": (-1, 1)}, (1, 1): {"01": (1, 1), "11": (1, 1)}}))

    def test_against_the_words(self):
        source = random.Random(1010)
        for book in some_books(1011, 80) + telling_books(1012, 40):
            self.check(book, random_question(source, book.band))

    def test_fronts_and_singles(self):
        source = random.Random(1013)
        book = Book(FRONTS, {"00.": 3, "1.0": 2, ".11": 1})
        found = self.check(book, {row: at ** 2 for at, row in enumerate(FRONTS.full_rows())})
        self.assertEqual(list(found), [(0, 1), (1, 6), (1, 3), (1, 2), (1, 1)])
        band = Band(*rows_800())
        self.check(even_book(band), random_question(source, band))
        self.check(Book(band, {row: source.randint(1, 999) for row in source.sample(band.rows(), 40)}),
                   random_question(source, band, -10 ** 30, 10 ** 30))

    def test_very_many_worths(self):
        cells = [(name, 2) for name in "abcdef"]
        seeds = ["." * at + "0" + "." * (5 - at) for at in range(6)]
        band = Band(cells, seeds + ["111111"])
        weights = {seed: 2 ** at for at, seed in enumerate(seeds)}
        book = Book(band, {**weights, "111111": 1})
        self.assertEqual(len(worths(book)), 64)
        source = random.Random(1014)
        self.assertEqual(len(self.check(book, random_question(source, band, 0, 10 ** 9))), 64)

    def test_zeros_equal_numbers_and_great_numbers(self):
        for book in some_books(1015, 20):
            self.assertEqual(self.check(book, questions_of_zeros(book.band)), {})
            for number in (7, -7, GREAT, -GREAT):
                equal = {row: number for row in book.band.full_rows()}
                self.assertTrue(same(self.check(book, equal), {(1, 1): {row: (number, 1) for row in equal}}))
            self.check(book, {row: GREAT - at for at, row in enumerate(equal)})
            self.check(book, {row: -GREAT * (at & 1) for at, row in enumerate(equal)})

    def test_the_piece_for_1_is_the_steady_mean(self):
        source = random.Random(1016)
        for book in telling_books(1017, 60):
            question = random_question(source, book.band)
            mean = sum(fraction(share) * question[row] for row, share in steady_shares(book).items())
            found = pieces(book=book, question=question)
            if mean == 0:
                self.assertNotIn((1, 1), found)
            else:
                self.assertEqual(found[1, 1], {row: pair(mean) for row in question})

    def test_a_steady_mean_of_0(self):
        self.assertTrue(same(pieces(example(), {"01": 2, "11": -1}), {(1, 4): {"01": (2, 1), "11": (-1, 1)}}))
        self.assertTrue(same(steady_mean(example(), {"01": 2, "11": -1}), (0, 1)))

    def test_books_that_leave_a_cell_untold(self):
        self.assertTrue(same(pieces(Book(band_of_8(), {"0.": 1}), {"01": 5, "11": 2}),
                             {(0, 1): {"01": (0, 1), "11": (-3, 1)}, (1, 1): {"01": (5, 1), "11": (5, 1)}}))
        self.assertTrue(same(pieces(Book(band_of_8(), {".1": 4}), {"01": 5, "11": 2}),
                             {(1, 1): {"01": (5, 1), "11": (2, 1)}}))
        self.assertTrue(same(pieces(Book(band_of_8(), {"..": 4}), {"01": 5, "11": 0}),
                             {(1, 1): {"01": (5, 1), "11": (0, 1)}}))

    def test_questions_that_see_some_cells_alone(self):
        source = random.Random(1018)
        for book in some_books(1019, 60):
            names = source.sample(book.band.names(), source.randint(1, book.band.size))
            places = [at for at, name in enumerate(book.band.names()) if name in names]
            signs = {row: "".join(row[at] for at in places) for row in book.band.full_rows()}
            numbers = {one: source.randint(-3, 3) for one in sorted(set(signs.values()))}
            found = self.check(book, {row: numbers[one] for row, one in signs.items()})
            self.assertEqual([v for v in found if v not in worths(book.onto(names))], [])

    def test_one_full_row(self):
        book = even_book(Band([("a", 1), ("b", 1)], ["0.", ".0"]))
        self.assertTrue(same(self.check(book, {"00": 4}), {(1, 1): {"00": (4, 1)}}))

    def test_wrong_questions(self):
        for value in wrong_questions():
            for call in (pieces, steady_mean):
                check_raises(self, BadQuestion, {}, call, example(), value)
            check_raises(self, BadQuestion, {}, mean_powers, example(), value, "01")
        for value in (GREAT, -GREAT, 0):
            self.assertIn((1, 1), pieces(example(), {"01": value, "11": 1}))

    def test_the_question_stays_and_dicts_are_new(self):
        question = {"11": 2, "01": 5}
        pieces(example(), question)[1, 1].clear()
        mean_powers(example(), question, "01")
        steady_mean(example(), question)
        self.assertTrue(same(question, {"11": 2, "01": 5}))
        self.assertEqual(pieces(example(), question), pieces(example(), {"01": 5, "11": 2}))
        self.assertEqual(len(pieces(example(), question)[1, 1]), 2)


class MeanTest(unittest.TestCase):
    def test_against_the_words(self):
        source = random.Random(1020)
        for book in some_books(1021, 40) + telling_books(1022, 20):
            question = random_question(source, book.band)
            for f in book.band.full_rows():
                powers = mean_powers(book, question, f)
                for t in range(4):
                    self.assertTrue(same(powers(t), pair(mean_by_words(book, question, f, t))))

    def test_the_pieces_give_the_mean(self):
        source = random.Random(1023)
        for book in some_books(1024, 40):
            question = random_question(source, book.band)
            found = pieces(book, question)
            for f in book.band.full_rows():
                expected = Powers([(piece[f], v) for v, piece in found.items()])
                self.assertEqual(mean_powers(book=book, question=question, row=f), expected)

    def test_the_example(self):
        powers = mean_powers(example(), {"01": 3, "11": 0}, "11")
        self.assertTrue(same(powers.parts(), [((-1, 1), (1, 4)), ((1, 1), (1, 1))]))
        self.assertEqual(mean_powers(example(), {"01": 0, "11": 0}, "11"), Powers())

    def test_the_order_of_errors(self):
        check_raises(self, BadQuestion, {}, mean_powers, example(), {}, "0")
        check_raises(self, BadQuestion, {}, mean_powers, Book(band_of_8(), {"0.": 1}), {"01": 1, "11": True}, None)
        question = {"01": 1, "11": 2}
        for value in bad_rows():
            check_raises(self, BadRow, {"row": value}, mean_powers, example(), question, value)
        check_raises(self, NotInBand, {"row": "00"}, mean_powers, example(), question, "00")
        for value in ("0.", "..", ".1"):
            check_raises(self, NotFull, {"row": value}, mean_powers, example(), question, value)

    def test_steady_mean(self):
        source = random.Random(1025)
        for book in telling_books(1026, 40):
            question = random_question(source, book.band, -GREAT, GREAT)
            steady = {row: fraction(share) for row, share in steady_shares(book).items()}
            expected = sum(share * question[row] for row, share in steady.items())
            self.assertTrue(same(steady_mean(book=book, question=question), pair(expected)))
            late = [fraction(mean_powers(book, question, f)(400)) for f in book.band.full_rows()[:2]]
            self.assertTrue(all(abs(one - expected) < Fraction(1, 10 ** 3) for one in late))

    def test_untold_cells(self):
        for weights, cell in (({"0.": 1}, "b"), ({".1": 1}, "a"), ({"..": 2}, "a")):
            book = Book(band_of_8(), weights)
            check_raises(self, Untold, {"cell": cell}, steady_mean, book, {"01": 1, "11": 0})
            check_raises(self, BadQuestion, {}, steady_mean, book, {"01": 1, "11": 0, "..": 0})

    def test_all_questions_of_one_row(self):
        """Of the questions that are 1 at one full row alone, the steady means are the steady shares."""
        for book in telling_books(1027, 20):
            steady = steady_shares(book)
            for f, g in itertools.product(book.band.full_rows(), repeat=2):
                question = {row: int(row == f) for row in book.band.full_rows()}
                self.assertEqual(steady_mean(book, question), steady.get(f, (0, 1)))
                powers = mean_powers(book, question, g)
                self.assertEqual(dict((v, a) for a, v in powers.parts()).get((1, 1), (0, 1)), steady.get(f, (0, 1)))


if __name__ == "__main__":
    unittest.main()
