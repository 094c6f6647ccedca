"""The interface under newesttells/books.py; promises [2], [27], [29], [30], [31] and [45]."""

import itertools
import math
import random
import unittest
from fractions import Fraction

import oracle
from helpers import any_values, check_raises, same
from newesttells.bands import Band
from newesttells.books import Book, even_book
from newesttells.errors import (BadCells, BadLot, BadNumber, BadRatio, BadRow, BadWeights, NotInBand, TooMany,
                                UnknownCell, Untold)
from newesttells.lots import signed_counts
from newesttells.powers import Powers
from test_bands import rows_800, singles
from test_powers import fraction
from test_streams import wrong_rows

CELLS = [("a", 2), ("b", 2)]
SEEDS = ["0.", ".1", "11"]
WEIGHTS = {"0.": 1, ".1": 1, "11": 2}
FRONTS = Band([("ab", 2), ("ac", 2), ("bc", 2)], ["1.0", "00.", ".11"])


def band_of_8():
    return Band(CELLS, SEEDS)


def example():
    return Book(band_of_8(), WEIGHTS)


def pair(one):
    return one.numerator, one.denominator


def shares_of(book):
    faces = sum(book.weights().values())
    return {row: Fraction(weight, faces) for row, weight in book.weights().items()}


def drawn(book, t):
    """A dict from the rows that t drawn deeds leave to their chances, one deed after another."""
    chances = {"." * book.band.size: Fraction(1)}
    for _ in range(t):
        further = {}
        for row, chance in chances.items():
            for deed, share in shares_of(book).items():
                left = oracle.over(deed, row)
                further[left] = further.get(left, 0) + chance * share
        chances = further
    return chances


def v_of(book, lot):
    return sum((share for row, share in shares_of(book).items() if oracle.inside(oracle.lot_of(row), lot)), Fraction(0))


def some_book(source, band, most=5, most_weight=4):
    rows = source.sample(band.rows(), source.randint(1, min(most, len(band))))
    return Book(band, {row: source.randint(1, most_weight) for row in rows})


def some_books(seed, count, most_cells=3):
    source = random.Random(seed)
    return [some_book(source, band) for band in oracle.random_bands(seed + 1, count, most_cells)]


def telling_books(seed, count):
    """Books that tell each cell."""
    source = random.Random(seed)
    books = []
    for band in oracle.random_bands(seed + 1, count, 3):
        weights = {deed: source.randint(1, 4) for deed in band.seeds()}
        weights[source.choice(band.rows())] = source.randint(1, 4)
        books.append(Book(band, weights))
    return books


def lots_for(size):
    return ["".join(signs) for signs in itertools.product("+.", repeat=size)]


def wrong_numbers(least, most):
    return [value for value in any_values() + [least - 1, most + 1, 10 ** 30, example(), [1], (1,), "1"]
            if type(value) is not int or not least <= value <= most]


def bad_rows():
    """Values that are no row for two cells of two values."""
    return [value for value in wrong_rows() + ["02", "0", "000", example()] if value not in ("..", "0.", "01")]


class WeightTest(unittest.TestCase):
    def test_the_example(self):
        book = example()
        self.assertTrue(same([book.weights(), book.deeds(), book.faces], [{".1": 1, "0.": 1, "11": 2},
                                                                         [".1", "0.", "11"], 4]))
        self.assertEqual(book.band, band_of_8())
        self.assertTrue(same([book.share("11"), book.share("0."), book.share("01"), book.share("..")],
                             [(1, 2), (1, 4), (0, 1), (0, 1)]))
        self.assertEqual([repr(book), len(book)], ["Book(3 deeds, 4 faces)", 3])

    def test_division(self):
        book = Book(band=band_of_8(), weights={"11": 6, "..": 9, "01": 999})
        self.assertTrue(same(book.weights(), {"..": 3, "01": 333, "11": 2}))
        self.assertEqual(book.faces, 338)
        self.assertTrue(same(Book(band_of_8(), {"0.": 999}).weights(), {"0.": 1}))
        self.assertTrue(same(Book(band_of_8(), {"0.": 999, ".1": 998}).weights(), {".1": 998, "0.": 999}))
        self.assertEqual(repr(Book(band_of_8(), {"0.": 7})), "Book(1 deeds, 1 faces)")
        self.assertEqual(Book(band_of_8(), {"0.": 2, ".1": 4}), Book(band_of_8(), {".1": 2, "0.": 1}))

    def test_the_facts_of_shares(self):
        for book in some_books(700, 50):
            self.assertEqual(sum(fraction(book.share(row)) for row in book.band.rows()), 1)
            self.assertEqual(math.gcd(*book.weights().values()), 1)
            self.assertEqual(book.faces, sum(book.weights().values()))
            self.assertEqual(book.deeds(), sorted(book.weights()))
            for row in book.band.rows():
                self.assertEqual(book.share(row), pair(shares_of(book).get(row, Fraction(0))))

    def test_share_within(self):
        for book in some_books(702, 40):
            for lot in lots_for(book.band.size):
                self.assertTrue(same(book.share_within(lot), pair(v_of(book, lot))))
        self.assertEqual(example().share_within(lot=".+"), (1, 4))

    def test_wrong_lots(self):
        for value in any_values() + [example(), "01", "+++", "+0", "+ "]:
            if value not in ("..", "++"):
                check_raises(self, BadLot, {"lot": value}, example().share_within, value)

    def test_untold(self):
        self.assertEqual(example().untold(), [])
        self.assertEqual(Book(band_of_8(), {"0.": 1}).untold(), ["b"])
        self.assertEqual(Book(band_of_8(), {".1": 1, "..": 1}).untold(), ["a"])
        self.assertEqual(Book(band_of_8(), {"..": 5}).untold(), ["a", "b"])

    def test_wrong_weights(self):
        values = [value for value in any_values()]
        values += [example(), {"0.": 0}, {"0.": 1000}, {"0.": -1}, {"0.": True}, {"0.": "1"}, {"0.": None},
                   {"0.": (1, 1)}, {"00": 1}, {"0": 1}, {"0.": 1, "00": 1}, {"0.": 1, ".1": 0}, {0: 1}, {None: 1},
                   {("0.",): 1}, {"0.": 1, 1: 1}, [("0.", 1)], ["0."], "0.", {"0.": [1]}, {"0.": 10 ** 30}]
        for value in values:
            check_raises(self, BadWeights, {}, Book, band_of_8(), value)

    def test_weights_of_1_and_999(self):
        self.assertEqual(Book(band_of_8(), {"0.": 1, ".1": 999}).faces, 1000)
        check_raises(self, BadWeights, {}, Book, band_of_8(), {"0.": 1, ".1": 1000})

    def test_wrong_rows(self):
        book = example()
        for call in (book.share, book.powers):
            for value in bad_rows():
                check_raises(self, BadRow, {"row": value}, call, value)
            check_raises(self, NotInBand, {"row": "00"}, call, "00")

    def test_dicts_are_copied(self):
        weights = dict(WEIGHTS)
        book = Book(band_of_8(), weights)
        weights.clear()
        for told in (book.weights(), book.deeds(), book.untold(), book.after(1), book.all_told().parts()):
            told.clear()
        self.assertEqual(book, example())
        self.assertEqual(book.weights(), WEIGHTS)

    def test_equal(self):
        self.assertTrue(example() == example())
        self.assertFalse(example() != example())
        self.assertTrue(example() != Book(band_of_8(), {"0.": 1, ".1": 1, "11": 3}))
        self.assertTrue(example() != Book(Band(CELLS, SEEDS[::-1]), WEIGHTS))
        for value in any_values() + [WEIGHTS, band_of_8(), 3]:
            self.assertIs(example() == value, False)
            self.assertIs(value == example(), False)

    def test_even_book(self):
        self.assertEqual(even_book(band_of_8()).weights(), {".1": 1, "0.": 1, "11": 1})
        self.assertEqual(even_book(band=Band([("a", 1)], ["0"])).faces, 1)

    def test_faces_are_only_read(self):
        with self.assertRaises(AttributeError):
            example().faces = 5


class AfterTest(unittest.TestCase):
    def test_against_drawing(self):
        for book in some_books(710, 50):
            for t in range(5):
                chances = {row: pair(chance) for row, chance in sorted(drawn(book, t).items())}
                self.assertTrue(same(book.after(t), chances))
        self.assertEqual(example().after(t=0), {"..": (1, 1)})
        self.assertTrue(same(example().after(1), {".1": (1, 4), "0.": (1, 4), "11": (1, 2)}))

    def test_powers_are_the_chances(self):
        for book in some_books(712, 50):
            for row in book.band.rows():
                powers = book.powers(row)
                for t in range(6):
                    self.assertEqual(powers(t), book.after(t).get(row, (0, 1)))
                shares = [book.share_within(lot) for lot in book.band.lots()
                          if oracle.inside(lot, oracle.lot_of(row))]
                self.assertTrue(all(v in shares for _, v in powers.parts()))

    def test_powers_with_equal_shares_of_lots(self):
        """Lots within one another with equal v, as in a book without a deed that tells the second cell alone."""
        band = Band([("a", 2), ("b", 2), ("c", 1)], ["0..", "1..", ".0.", ".1.", "..0", "01.", "1.0"])
        for weights in ({"0..": 1, "01.": 2}, {"01.": 1, "..0": 1}, {"0..": 1, "1.0": 1, "01.": 1},
                        {"...": 3, "010": 1}, {"0..": 1, "...": 1, "1..": 2, "..0": 1}, {"...": 7}, {"010": 1}):
            book = Book(band, weights)
            for row in band.rows():
                self.assertEqual([book.powers(row)(t) for t in range(8)],
                                 [book.after(t).get(row, (0, 1)) for t in range(8)])

    def test_t_of_400(self):
        book = example()
        after = book.after(400)
        self.assertEqual(sum(map(fraction, after.values())), 1)
        self.assertEqual(after, {row: book.powers(row)(400) for row in band_of_8().rows()[1:]})
        self.assertEqual(fraction(book.all_told()(400)), fraction(after["01"]) + fraction(after["11"]))

    def test_wrong_t(self):
        for value in wrong_numbers(0, 400):
            check_raises(self, BadNumber, {"value": value}, example().after, value)

    def test_never_left_rows(self):
        book = Book(band_of_8(), {"0.": 1})
        self.assertEqual(book.powers("11").parts(), [])
        self.assertEqual(book.powers("..").parts(), [((1, 1), (0, 1))])
        self.assertEqual(book.powers("0.").parts(), [((-1, 1), (0, 1)), ((1, 1), (1, 1))])
        self.assertEqual(Book(band_of_8(), {"..": 4}).powers(row="..").parts(), [((1, 1), (1, 1))])

    def test_all_told(self):
        for book in some_books(714, 50):
            told = book.all_told()
            for t in range(6):
                chances = drawn(book, t)
                full = sum((chance for row, chance in chances.items() if "." not in row), Fraction(0))
                self.assertEqual(told(t), pair(full))
            counts = signed_counts(book.band)
            self.assertEqual(told, Powers([((counts[lot], 1), book.share_within(lot)) for lot in counts]))

    def test_a_book_that_leaves_a_cell_untold(self):
        book = Book(band_of_8(), {"0.": 2, "..": 1})
        self.assertEqual(book.all_told().parts(), [])
        check_raises(self, Untold, {"cell": "b"}, book.mean_told)
        check_raises(self, Untold, {"cell": "b"}, book.least_told, (1, 2))
        check_raises(self, Untold, {"cell": "a"}, Book(band_of_8(), {"..": 1}).mean_told)

    def test_the_example_of_fronts(self):
        book = Book(FRONTS, {"00.": 3, "1.0": 2, ".11": 1})
        self.assertTrue(same([book.mean_told(), book.all_told().parts()],
                             [(27, 10), [((2, 1), (0, 1)), ((-1, 1), (1, 6)), ((-1, 1), (1, 3)), ((-1, 1), (1, 2)),
                                         ((1, 1), (1, 1))]]))

    def test_mean_told(self):
        for book in telling_books(716, 40):
            counts = signed_counts(book.band)
            mean = sum(Fraction(-counts[lot]) / (1 - v_of(book, lot)) for lot in book.band.lots()[:-1])
            self.assertTrue(same(book.mean_told(), pair(mean)))
        self.assertEqual(example().mean_told(), (5, 3))
        self.assertEqual(Book(band_of_8(), {"11": 3}).mean_told(), (1, 1))

    def test_least_told(self):
        source = random.Random(718)
        for book in telling_books(719, 40):
            chance = source.choice([(1, 10 ** 30), (1, 2), (1, 3), (9, 10), (99, 100)])
            told = book.all_told()
            expected = next(t for t in range(401) if fraction(told(t)) >= fraction(chance))
            self.assertTrue(same(book.least_told(chance), expected))

    def test_least_told_edges(self):
        self.assertEqual(Book(band_of_8(), {"11": 3}).least_told(chance=(999, 1000)), 1)
        book = Book(Band([("a", 1)], ["0"]), {".": 1, "0": 1})
        self.assertEqual([book.least_told((1, 2)), book.least_told((3, 4)), book.least_told((5, 8))], [1, 2, 2])
        self.assertEqual(book.least_told((2 ** 400 - 1, 2 ** 400)), 400)
        check_raises(self, TooMany, {"most": 400}, book.least_told, (2 ** 401 - 1, 2 ** 401))
        rare = Book(Band([("a", 1)], ["0"]), {".": 999, "0": 1})
        check_raises(self, TooMany, {"most": 400}, rare.least_told, (1, 2))
        self.assertEqual(rare.least_told((1, 1000)), 1)

    def test_wrong_chances(self):
        values = any_values() + [example(), (0, 1), (1, 1), (-1, 2), (3, 2), (2, 4), (1, 0), (1, -2), [1, 2],
                                 (True, 2), (1, 2, 3), (0, 2)]
        for value in values:
            if value != (1, 2):
                check_raises(self, BadRatio, {"value": value}, example().least_told, value)
                check_raises(self, BadRatio, {"value": value}, Book(band_of_8(), {"0.": 1}).least_told, value)


class OtherBookTest(unittest.TestCase):
    def test_and_then(self):
        source = random.Random(730)
        for band in oracle.random_bands(731, 50, 3):
            one, two = some_book(source, band), some_book(source, band)
            both = one.and_then(two)
            expected = {}
            for (x, p), (y, q) in itertools.product(shares_of(one).items(), shares_of(two).items()):
                expected[oracle.over(y, x)] = expected.get(oracle.over(y, x), 0) + p * q
            self.assertEqual(shares_of(both), expected)
            self.assertEqual(both.deeds(), sorted(expected))
            self.assertEqual(math.gcd(*both.weights().values()), 1)
            for lot in lots_for(band.size):
                self.assertEqual(fraction(both.share_within(lot)), v_of(one, lot) * v_of(two, lot))

    def test_and_then_is_two_drawn_deeds(self):
        for book in some_books(732, 30):
            self.assertEqual({row: book.and_then(other=book).share(row) for row in book.after(2)}, book.after(2))

    def test_great_weights(self):
        book = Book(band_of_8(), {"0.": 998, ".1": 997, "11": 999, "..": 1})
        for _ in range(4):
            book = book.and_then(book)
        self.assertEqual(book.faces, 2995 ** 16)
        self.assertEqual(sum(book.weights().values()), book.faces)
        self.assertEqual(Book(band_of_8(), {"0.": 998, ".1": 997, "11": 999, "..": 1}).after(16),
                         {row: book.share(row) for row in book.deeds()})
        for _ in range(7):
            book = book.and_then(book)
        self.assertTrue(repr(book).startswith("Book(5 deeds, 4578267176837"))
        self.assertEqual(len(repr(book)), len("Book(5 deeds,  faces)") + 7120)

    def test_mixed(self):
        source = random.Random(734)
        for band in oracle.random_bands(735, 50, 3):
            one, two = some_book(source, band), some_book(source, band)
            mine, theirs = source.randint(1, 5), source.randint(1, 5)
            both = one.mixed(two, mine=mine, theirs=theirs)
            for row in band.rows():
                share = (mine * fraction(one.share(row)) + theirs * fraction(two.share(row))) / (mine + theirs)
                self.assertEqual(fraction(both.share(row)), share)
            for lot in lots_for(band.size):
                share = (mine * v_of(one, lot) + theirs * v_of(two, lot)) / (mine + theirs)
                self.assertEqual(fraction(both.share_within(lot)), share)
            self.assertEqual(one.mixed(two), one.mixed(two, theirs=1, mine=1))
            self.assertEqual(math.gcd(*both.weights().values()), 1)

    def test_mixed_edges(self):
        one, two = Book(band_of_8(), {"0.": 1}), Book(band_of_8(), {".1": 1, "0.": 1})
        self.assertTrue(same(one.mixed(other=two).weights(), {".1": 1, "0.": 3}))
        self.assertTrue(same(one.mixed(two, mine=999, theirs=1).weights(), {".1": 1, "0.": 1999}))
        self.assertEqual(one.mixed(one), one)

    def test_wrong_mixes(self):
        book = example()
        for value in wrong_numbers(1, 999):
            check_raises(self, BadNumber, {"value": value}, book.mixed, book, mine=value, theirs=1000)
            check_raises(self, BadNumber, {"value": value}, book.mixed, book, theirs=value)
        with self.assertRaises(TypeError):
            book.mixed(book, 1, 1)

    def test_onto(self):
        source = random.Random(736)
        for book in some_books(737, 50):
            names = book.band.names()
            chosen = source.sample(names, source.randint(1, len(names)))
            places = [at for at, name in enumerate(names) if name in chosen]
            onto = book.onto(chosen)
            self.assertEqual(onto.band, book.band.onto(chosen))
            expected = {}
            for row, share in shares_of(book).items():
                signs = "".join(row[at] for at in places)
                expected[signs] = expected.get(signs, 0) + share
            self.assertEqual(shares_of(onto), expected)
            self.assertEqual(onto.deeds(), sorted(expected))

    def test_onto_edges(self):
        self.assertTrue(same(example().onto(["b"]).weights(), {".": 1, "1": 3}))
        self.assertTrue(same(example().onto(cells=("b", "a")).weights(), {".1": 1, "0.": 1, "11": 2}))
        for value in any_values() + [example(), "ab"]:
            if not isinstance(value, (list, tuple)) or len(value) == 0:
                check_raises(self, BadCells, {"at": -1}, example().onto, value)
        for value in any_values() + [example()]:
            if value != "a":
                check_raises(self, UnknownCell, {"name": value}, example().onto, ["b", value, "x"])

    def test_books_never_change(self):
        book, other = example(), Book(band_of_8(), {"..": 1, "01": 5})
        book.and_then(other), book.mixed(other, mine=3), book.onto(["a"]), book.after(3), book.mean_told()
        self.assertEqual([book, other], [example(), Book(band_of_8(), {"..": 1, "01": 5})])


class DistanceTest(unittest.TestCase):
    def distance(self, book, one, other, t):
        chances = {}
        for row, chance in drawn(book, t).items():
            for beginning, side in ((one, 1), (other, -1)):
                end = oracle.over(row, beginning)
                chances[end] = chances.get(end, 0) + side * chance
        return sum(abs(chance) for chance in chances.values()) / 2

    def test_against_drawing(self):
        source = random.Random(740)
        for book in some_books(741, 50):
            for _ in range(6):
                one, other, t = source.choice(book.band.rows()), source.choice(book.band.rows()), source.randint(0, 4)
                distance = self.distance(book, one, other, t)
                self.assertTrue(same(book.distance(one, other, t), pair(distance)))
                self.check_bounds(book, one, other, t, distance)

    def check_bounds(self, book, one, other, t, distance):
        unlike = [at for at in range(book.band.size) if one[at] != other[at]]
        lower = [v_of(book, "".join("." if at == k else "+" for at in range(book.band.size))) ** t for k in unlike]
        upper = 1 - sum(chance for row, chance in drawn(book, t).items() if all(row[k] != "." for k in unlike))
        self.assertTrue(same(book.least_distance(one, other, t), pair(max(lower, default=Fraction(0)))))
        self.assertTrue(same(book.most_distance(one, other, t), pair(Fraction(upper))))
        self.assertTrue(max(lower, default=0) <= distance <= upper)
        if len(unlike) == 1:
            self.assertTrue(lower[0] == distance == upper)

    def test_edges(self):
        book = example()
        for call in (book.distance, book.least_distance, book.most_distance):
            self.assertTrue(same([call("01", "01", 0), call("01", "01", 400), call("01", "11", 0)],
                                 [(0, 1), (0, 1), (1, 1)]))
            self.assertEqual(call(one="01", other="11", t=2), (1, 16))
        self.assertEqual([book.least_distance("..", "11", 2), book.distance("..", "11", 2),
                          book.most_distance("..", "11", 2)], [(1, 16), (1, 8), (1, 8)])
        blank = Book(band_of_8(), {"..": 1})
        self.assertEqual([blank.least_distance("..", "11", 400), blank.most_distance("..", "11", 400)], [(1, 1)] * 2)
        self.assertEqual(Book(band_of_8(), {"11": 1}).least_distance("..", "01", 1), (0, 1))

    def test_t_of_400(self):
        book = example()
        self.assertEqual(book.distance("01", "11", 400), (1, 4 ** 400))
        self.assertTrue(fraction(book.least_distance("..", "11", 400)) <= fraction(book.distance("..", "11", 400))
                        <= fraction(book.most_distance("..", "11", 400)))

    def test_wrong_values(self):
        book = example()
        for call in (book.distance, book.least_distance, book.most_distance):
            for value in bad_rows():
                check_raises(self, BadRow, {"row": value}, call, value, None, None)
                check_raises(self, BadRow, {"row": value}, call, "11", value, None)
            check_raises(self, NotInBand, {"row": "00"}, call, "00", None, 401)
            check_raises(self, NotInBand, {"row": "00"}, call, "11", "00", 401)
            for value in wrong_numbers(0, 400):
                check_raises(self, BadNumber, {"value": value}, call, "11", "..", value)
                check_raises(self, BadNumber, {"value": value}, call, "11", "11", value)


class GreatBookTest(unittest.TestCase):
    def test_a_book_of_800_deeds(self):
        band = Band(*rows_800())
        source = random.Random(750)
        book = Book(band, {row: source.randint(1, 999) for row in band.rows()})
        self.assertEqual(len(book), 800)
        after = book.after(400)
        self.assertEqual(sum(map(fraction, after.values())), 1)
        self.assertEqual(book.all_told()(400), pair(sum(fraction(after[row]) for row in band.full_rows())))
        row = band.full_rows()[7]
        self.assertEqual(book.powers(row)(400), after[row])

    def test_512_lots(self):
        band = Band(*singles(9, 1))
        book = Book(band, {seed: 2 * at + 1 for at, seed in enumerate(band.seeds())})
        self.assertEqual(book.powers("0" * 9), book.all_told())
        self.assertEqual(len(book.after(20)), 511)


if __name__ == "__main__":
    unittest.main()
