"""The interface under newesttells/tapes.py; promises [32] and [36]."""

import itertools
import random
import unittest
from fractions import Fraction

import oracle
from helpers import any_values, check_raises, same
from newesttells.books import Book
from newesttells.drawing import forward_shares, steady_shares
from newesttells.errors import BadNumber, BadRow, BadTape, NotFull, NotInBand, TooMany
from newesttells.tapes import count_tapes, deadline, deed_of, draw, tapes
from test_books import bad_rows, band_of_8, example, pair, telling_books, wrong_numbers
from test_powers import fraction


def reading(book, tape, forward=False):
    """What a reading tells by the words of [32]."""
    deeds = [deed for deed, weight in book.weights().items() for _ in range(weight)]
    row = "." * book.band.size
    for at, throw in enumerate(tape):
        row = oracle.over(deeds[throw], row) if forward else oracle.over(row, deeds[throw])
        if "." not in row:
            return row, at + 1
    return None


def all_tapes(book, throws):
    return [list(tape) for tape in itertools.product(range(book.faces), repeat=throws)]


def small_books(seed, count):
    source = random.Random(seed)
    books = []
    for band in oracle.random_bands(seed + 1, count, 3):
        rows = source.sample(band.rows(), source.randint(1, min(3, len(band))))
        books.append(Book(band, {row: source.randint(1, 2) for row in rows}))
    return books


class ThrowTest(unittest.TestCase):
    def test_deed_of(self):
        self.assertEqual([deed_of(example(), throw) for throw in range(4)], [".1", "0.", "11", "11"])
        self.assertEqual(deed_of(book=example(), throw=3), "11")
        for book in telling_books(900, 30):
            expected = [deed for deed in book.deeds() for _ in range(book.weights()[deed])]
            self.assertEqual([deed_of(book, throw) for throw in range(book.faces)], expected)

    def test_great_faces(self):
        book = Book(band_of_8(), {"0.": 999, ".1": 998})
        for _ in range(5):
            book = book.and_then(book)
        last = book.weights()[".1"]
        self.assertEqual([deed_of(book, throw) for throw in (0, last - 1, last)], [".1", ".1", "0."])
        self.assertEqual(deed_of(book, book.faces - 1), book.deeds()[-1])
        self.assertEqual(list(tapes(book, throws=0)), [])
        check_raises(self, TooMany, {"most": 5000}, lambda: next(tapes(book, throws=1)))

    def test_wrong_throws(self):
        for value in wrong_numbers(0, 3):
            check_raises(self, BadNumber, {"value": value}, deed_of, example(), value)


class DrawTest(unittest.TestCase):
    def test_the_example(self):
        book = example()
        self.assertTrue(same([draw(book, [0, 1]), draw(book, [1, 2]), draw(book, [1, 2], forward=True)],
                             [("01", 2), ("01", 2), ("11", 2)]))
        self.assertTrue(same([draw(book, []), draw(book, ()), draw(book, [0, 0, 0]), draw(book, [3, 0])],
                             [None, None, None, ("11", 1)]))
        self.assertEqual(draw(book=book, tape=(1, 1, 1, 0, 2), forward=False), ("01", 4))

    def test_against_the_words(self):
        for book in small_books(910, 30):
            for throws in range(4):
                for tape in all_tapes(book, throws):
                    self.assertEqual(draw(book, tape), reading(book, tape))
                    self.assertEqual(draw(book, tuple(tape), forward=True), reading(book, tape, True))

    def test_a_book_that_leaves_a_cell_untold(self):
        book = Book(band_of_8(), {"0.": 1, "..": 2})
        self.assertIsNone(draw(book, [0, 1, 2] * 5))
        self.assertIsNone(draw(book, [0, 1, 2], forward=True))

    def test_wrong_tapes(self):
        book = example()
        for forward in (False, True):
            for value in any_values() + [book, "01"]:
                if not isinstance(value, (list, tuple)):
                    check_raises(self, BadTape, {"at": -1}, draw, book, value, forward=forward)
            for value in wrong_numbers(0, 3):
                check_raises(self, BadTape, {"at": 0}, draw, book, [value], forward=forward)
                check_raises(self, BadTape, {"at": 3}, draw, book, (2, 2, 2, value, None), forward=forward)
        with self.assertRaises(TypeError):
            draw(book, [0], True)

    def test_the_tape_stays(self):
        tape = [0, 1, 2]
        draw(example(), tape)
        self.assertEqual(tape, [0, 1, 2])


class CountTest(unittest.TestCase):
    def test_against_the_tapes(self):
        for book in small_books(920, 30):
            for throws in range(4):
                for forward in (False, True):
                    told = [reading(book, tape, forward) for tape in all_tapes(book, throws)]
                    for row in book.band.full_rows():
                        counted = count_tapes(book, row, throws=throws, forward=forward)
                        self.assertTrue(same(counted, told.count((row, throws))))

    def test_edges(self):
        book = example()
        self.assertTrue(same([count_tapes(book, "11", throws=count) for count in range(3)], [0, 2, 2]))
        self.assertEqual(count_tapes(book=book, row="01", throws=2, forward=False), 4)
        self.assertEqual([count_tapes(book, "01", throws=2, forward=True), count_tapes(book, "11", throws=2,
                                                                                       forward=True)], [2, 4])
        self.assertEqual(count_tapes(Book(band_of_8(), {"0.": 1}), "01", throws=60), 0)

    def test_60_throws(self):
        book = example()
        for forward, shares in ((False, steady_shares(book)), (True, forward_shares(book))):
            for row in ("01", "11"):
                near = sum(Fraction(count_tapes(book, row, throws=throws, forward=forward), 4 ** throws)
                           for throws in range(61))
                self.assertLess(abs(near - fraction(shares[row])), Fraction(1, 10 ** 30))

    def test_wrong_values(self):
        book = example()
        for value in bad_rows():
            check_raises(self, BadRow, {"row": value}, count_tapes, book, value, throws=None)
        check_raises(self, NotInBand, {"row": "00"}, count_tapes, book, "00", throws=61)
        check_raises(self, NotFull, {"row": "0."}, count_tapes, book, "0.", throws=61)
        for value in wrong_numbers(0, 60):
            check_raises(self, BadNumber, {"value": value}, count_tapes, book, "01", throws=value)
            check_raises(self, BadNumber, {"value": value}, count_tapes, book, "01", throws=value, forward=True)


class TapesTest(unittest.TestCase):
    def test_against_all_tapes(self):
        for book in small_books(930, 40):
            for throws in range(5):
                for forward in (False, True):
                    expected = [tape for tape in all_tapes(book, throws)
                                if reading(book, tape, forward) and reading(book, tape, forward)[1] == throws]
                    self.assertTrue(same(list(tapes(book, throws=throws)), expected))

    def test_0_and_6_throws(self):
        book = Book(band_of_8(), {"0.": 1, ".1": 1})
        self.assertEqual(list(tapes(book=book, throws=0)), [])
        self.assertEqual(list(tapes(book, throws=6)), [[0, 0, 0, 0, 0, 1], [1, 1, 1, 1, 1, 0]])
        self.assertEqual(list(tapes(Book(band_of_8(), {"0.": 1}), throws=6)), [])

    def test_5000_and_5001_tapes(self):
        other = Book(band_of_8(), {"11": 1})
        book = Book(band_of_8(), {"0.": 1, "11": 624}).mixed(other, theirs=7)
        self.assertEqual(book.faces, 5000)
        self.assertTrue(same(list(tapes(book, throws=1)), [[throw] for throw in range(1, 5000)]))
        check_raises(self, TooMany, {"most": 5000}, lambda: next(tapes(book, throws=2)))
        book = Book(band_of_8(), {"0.": 1, ".1": 667, "11": 999}).mixed(other, theirs=2)
        self.assertEqual(book.faces, 5001)
        check_raises(self, TooMany, {"most": 5000}, lambda: next(tapes(book, throws=1)))
        self.assertEqual(list(tapes(book, throws=0)), [])

    def test_70_times_70_and_71_times_71(self):
        book = Book(band_of_8(), {"11": 69, "0.": 1})
        self.assertEqual(list(tapes(book, throws=2)), [[0, throw] for throw in range(1, 70)])
        book = Book(band_of_8(), {"11": 70, "0.": 1})
        check_raises(self, TooMany, {"most": 5000}, lambda: next(tapes(book, throws=2)))

    def test_wrong_numbers(self):
        for value in wrong_numbers(0, 6):
            check_raises(self, BadNumber, {"value": value}, lambda: next(tapes(example(), throws=value)))
            tapes(example(), throws=value)
        with self.assertRaises(TypeError):
            tapes(example(), 2)

    def test_lists_are_new(self):
        told = tapes(example(), throws=2)
        next(told).clear()
        self.assertEqual([next(told), next(tapes(example(), throws=2))], [[0, 2], [0, 1]])


class DeadlineTest(unittest.TestCase):
    def test_against_the_tapes(self):
        for book in small_books(940, 30):
            for throws in range(4):
                told = [found[0] for found in (reading(book, tape) for tape in all_tapes(book, throws)) if found]
                expected = {row: pair(Fraction(told.count(row), len(told))) for row in sorted(set(told))}
                self.assertTrue(same(deadline(book, throws), expected))

    def test_against_the_chances(self):
        for book in telling_books(942, 30):
            for throws in (0, 1, 3, 10):
                stops = fraction(book.all_told()(throws))
                shares = {row: fraction(chance) / stops for row, chance in book.after(throws).items() if "." not in row}
                self.assertEqual(deadline(book=book, throws=throws), {row: pair(one) for row, one in shares.items()})
                counted = {row: sum(Fraction(count_tapes(book, row, throws=count), book.faces ** count)
                                    for count in range(throws + 1)) for row in shares}
                self.assertEqual({row: one / stops for row, one in counted.items()}, shares)

    def test_edges(self):
        self.assertTrue(same([deadline(example(), 0), deadline(example(), 1)], [{}, {"11": (1, 1)}]))
        self.assertEqual(deadline(Book(band_of_8(), {"0.": 1}), 400), {})
        late = deadline(example(), 400)
        self.assertEqual(sum(map(fraction, late.values())), 1)
        self.assertLess(abs(fraction(late["01"]) - Fraction(1, 3)), Fraction(1, 10 ** 100))

    def test_wrong_numbers(self):
        for value in wrong_numbers(0, 400):
            check_raises(self, BadNumber, {"value": value}, deadline, example(), value)
            check_raises(self, BadNumber, {"value": value}, deadline, Book(band_of_8(), {"0.": 1}), value)


if __name__ == "__main__":
    unittest.main()
