"""The interface under newesttells/bands.py; promises [2], [6] (bands), [8] (papers) and [11] (bands from bands)."""

import random
import unittest

import oracle
from helpers import any_values, check_raises, same
from newesttells.bands import Band
from newesttells.blocks import Block
from newesttells.coming import come
from newesttells.errors import (BadCells, BadLot, BadNumber, BadRow, BadSeed, IsFull, NotInBand, TellsError, TooMany,
                                UnknownCell, Untold)

CELLS = [("a", 2), ("b", 2)]
SEEDS = ["0.", ".1", "11"]
TWELVE = [(name, 4) for name in "abcdefghijkl"]


def example():
    return Band(CELLS, SEEDS)


def full_seeds(count):
    """Different full rows for four cells of four values."""
    return [f"{at // 64}{at // 16 - at // 64 * 4}{at // 4 - at // 16 * 4}{at - at // 4 * 4}" for at in range(count)]


def singles(many_cells, many):
    """The cells and the seeds of a band in which each cell is told alone, with each of its values."""
    cells = [(name, many) for name in "abcdefghijkl"[:many_cells]]
    seeds = []
    for at in range(many_cells):
        seeds.extend("." * at + str(value) + "." * (many_cells - at - 1) for value in range(many))
    return cells, seeds


def rows_800():
    """A band with 800 rows: 2 * 4 * 4 * 5 * 5 of five bands side by side."""
    cells = [("a", 1), ("b", 3), ("c", 3), ("d", 4), ("e", 4)]
    seeds = [seed for at, (_, many) in enumerate(cells)
             for seed in ["." * at + str(value) + "." * (4 - at) for value in range(many)]]
    return cells, seeds


def rows_801():
    """Cells and seeds of 801 rows."""
    cells = [("a", 4), ("b", 2), ("c", 4), ("d", 4), ("e", 4), ("f", 1)]
    return cells, ["..1...", "3..3..", "3.....", "..00.0", ".13...", "..20..", "...11.", "0.300.", "2..2..", "2.....",
                   "0.3..0", "1.....", "..3.2."]


class ConstructorTest(unittest.TestCase):
    def test_the_example(self):
        band = example()
        self.assertEqual([band.rows(), band.lots(), band.come("00")],
                         [["..", ".1", "0.", "01", "11"], ["..", "+.", ".+", "++"],
                          [("row", "00"), ("take", "0."), ("bar", ".1", "b"), ("bar", "11", "b"), ("barred",)]])

    def test_the_example_of_untold(self):
        check_raises(self, Untold, {"cell": "b"}, Band, CELLS, ["0."])

    def test_rows_against_the_words(self):
        for band in oracle.random_bands(1, 150):
            rows = oracle.closure(band.size, band.seeds())
            self.assertEqual(band.rows(), rows)
            self.assertEqual(band.full_rows(), [row for row in rows if "." not in row])
            self.assertEqual(band.lots(), sorted({oracle.lot_of(row) for row in rows}, key=oracle.lot_key))
            self.assertEqual(len(band), len(rows))
            self.assertTrue(band.full_rows())

    def test_by_position_and_by_name(self):
        band = Band(cells=tuple(CELLS), seeds=tuple(SEEDS), most=800)
        self.assertEqual(band, example())
        self.assertIs(type(band.cells()), list)
        self.assertIs(type(band.seeds()), list)
        with self.assertRaises(TypeError):
            Band(CELLS, SEEDS, 800)

    def test_one_cell(self):
        band = Band([("a", 1)], ["0"])
        self.assertEqual([band.rows(), band.full_rows(), band.lots(), band.size], [[".", "0"], ["0"], [".", "+"], 1])
        self.assertEqual(Band([("a", 4)], ["3", "1"]).rows(), [".", "1", "3"])

    def test_12_cells(self):
        band = Band(TWELVE, ["3" * 12])
        self.assertEqual([band.rows(), band.size, band.blank_row()], [["." * 12, "3" * 12], 12, "." * 12])

    def test_wrong_cells(self):
        for value in any_values() + [example()]:
            if value != [("a", 2)]:
                whole = not isinstance(value, (list, tuple)) or not value
                check_raises(self, BadCells, {"at": -1 if whole else 0}, Band, value, ["0"])
        check_raises(self, BadCells, {"at": 1}, Band, [("a", 2), ("a", 2)], SEEDS)
        check_raises(self, BadCells, {"at": -1}, Band, [*TWELVE, ("m", 1)], ["0" * 13])

    def test_wrong_seeds(self):
        for value in any_values() + [example(), "0."]:
            if not isinstance(value, (list, tuple)):
                check_raises(self, BadSeed, {"at": -1}, Band, CELLS, value)
            if not (isinstance(value, str) and value in oracle.all_rows(CELLS)):
                check_raises(self, BadSeed, {"at": 0}, Band, CELLS, [value])
                check_raises(self, BadSeed, {"at": 3}, Band, CELLS, [*SEEDS, value])
        for seed in ("..", "0", "000", "02", "2.", "++", "0.", ".1"):
            check_raises(self, BadSeed, {"at": 2}, Band, CELLS, ["0.", ".1", seed, ".."])
        check_raises(self, BadSeed, {"at": 1}, Band, CELLS, ["11", "11", "5", ""])
        check_raises(self, Untold, {"cell": "a"}, Band, CELLS, [])
        check_raises(self, Untold, {"cell": "a"}, Band, CELLS, ())
        check_raises(self, Untold, {"cell": "a"}, Band, CELLS, [".0"])

    def test_30_and_31_seeds(self):
        cells = [(name, 4) for name in "abcd"]
        self.assertEqual(len(Band(cells, full_seeds(30))), 31)
        check_raises(self, TooMany, {"most": 30}, Band, cells, full_seeds(31))
        check_raises(self, TooMany, {"most": 30}, Band, cells, [None] * 31)
        check_raises(self, BadSeed, {"at": 29}, Band, cells, [*full_seeds(29), "...."])

    def test_800_and_801_rows(self):
        cells, seeds = rows_800()
        self.assertEqual(len(Band(cells, seeds)), 800)
        self.assertEqual(len(Band(cells, seeds, most=800)), 800)
        check_raises(self, TooMany, {"most": 799}, Band, cells, seeds, most=799)
        cells, seeds = rows_801()
        self.assertEqual(len(oracle.laid_closure(len(cells), seeds)), 801)
        check_raises(self, TooMany, {"most": 800}, Band, cells, seeds)
        check_raises(self, TooMany, {"most": 800}, Band, cells, seeds, most=800)
        check_raises(self, TooMany, {"most": 17}, Band, cells, seeds, most=17)
        for at in range(len(seeds)):
            fewer = seeds[:at] + seeds[at + 1:]
            self.assertEqual(self.rows_or_none(cells, fewer), self.right_rows(cells, fewer))

    def rows_or_none(self, cells, seeds):
        try:
            return Band(cells, seeds).rows()
        except TellsError:
            return None

    def right_rows(self, cells, seeds):
        rows = oracle.laid_closure(len(cells), seeds)
        untold = [at for at in range(len(cells)) if all(seed[at] == "." for seed in seeds)]
        return None if untold or len(rows) > 800 else rows

    def test_far_too_many_rows(self):
        check_raises(self, TooMany, {"most": 800}, Band, *singles(7, 4))
        check_raises(self, TooMany, {"most": 800}, Band, *singles(12, 2))

    def test_most(self):
        self.assertEqual(Band(CELLS, SEEDS, most=5), example())
        for most in (1, 2, 3, 4):
            check_raises(self, TooMany, {"most": most}, Band, CELLS, SEEDS, most=most)
        self.assertEqual(len(Band([("a", 1)], ["0"], most=2)), 2)
        check_raises(self, TooMany, {"most": 1}, Band, [("a", 1)], ["0"], most=1)
        for value in any_values() + [801, 0, -5, example()]:
            if type(value) is not int or not 1 <= value <= 800:
                check_raises(self, BadNumber, {"value": value}, Band, CELLS, SEEDS, most=value)

    def test_the_order_of_errors(self):
        many = [None] * 31
        check_raises(self, BadCells, {"at": -1}, Band, [], None, most=0)
        check_raises(self, BadCells, {"at": 0}, Band, [("a", 5), None], many, most=0)
        check_raises(self, BadSeed, {"at": -1}, Band, CELLS, None, most=0)
        check_raises(self, TooMany, {"most": 30}, Band, CELLS, many, most=0)
        check_raises(self, BadSeed, {"at": 0}, Band, CELLS, ["..", "0."], most=True)
        check_raises(self, Untold, {"cell": "b"}, Band, CELLS, ["0."], most=0)
        check_raises(self, BadNumber, {"value": 0}, Band, CELLS, SEEDS, most=0)
        check_raises(self, BadNumber, {"value": True}, Band, CELLS, SEEDS, most=True)

    def test_lists_are_copied(self):
        cells, seeds = list(CELLS), list(SEEDS)
        band = Band(cells, seeds)
        cells.append(("c", 1))
        seeds.clear()
        self.assertEqual(band, example())
        for answer in (band.cells(), band.seeds(), band.names(), band.rows(), band.full_rows(), band.lots(),
                       band.come("00"), band.made_of("01")):
            answer.clear()
        self.assertEqual(band, example())
        self.assertEqual([band.cells(), band.seeds(), band.names(), band.rows(), band.full_rows(), band.lots()],
                         [CELLS, SEEDS, ["a", "b"], ["..", ".1", "0.", "01", "11"], ["01", "11"],
                          ["..", "+.", ".+", "++"]])


class RowsOfBandTest(unittest.TestCase):
    def test_lists_and_properties(self):
        band = Band([("b", 3), ("a", 1)], ["2.", "00", "0."])
        self.assertEqual([band.cells(), band.seeds(), band.names(), band.size, band.blank_row()],
                         [[("b", 3), ("a", 1)], ["2.", "00", "0."], ["b", "a"], 2, ".."])
        self.assertEqual([band.rows(), band.full_rows(), band.lots()],
                         [["..", "0.", "00", "2.", "20"], ["00", "20"], ["..", "+.", "++"]])

    def test_come(self):
        band = example()
        self.assertEqual(band.come("11"), [("row", "11"), ("take", ".1"), ("take", "11"), ("made",)])
        self.assertEqual(band.come("11", seeds=None), band.come("11"))
        self.assertEqual(band.come("11", seeds=["11", ".."]), [("row", "11"), ("take", "11"), ("made",)])
        self.assertEqual(band.come(row="11", seeds=()), [("row", "11"), ("barred",)])
        self.assertEqual(band.come("11", seeds=[]), [("row", "11"), ("barred",)])
        for other in oracle.random_bands(2, 40, 3):
            for row in oracle.all_rows(other.cells()):
                self.assertEqual(other.come(row), come(other.cells(), other.seeds(), row))

    def test_made_of(self):
        band = example()
        self.assertEqual([band.made_of(row) for row in band.rows()], [[], [".1"], ["0."], ["0.", ".1"], [".1", "11"]])
        self.assertEqual(band.made_of(row="11"), [".1", "11"])
        for other in oracle.random_bands(3, 40):
            for row in other.rows():
                standing = other.blank_row()
                for seed in other.made_of(row):
                    standing = oracle.over(standing, seed)
                self.assertEqual(standing, row)

    def test_the_errors_of_a_row(self):
        band = example()
        for row in band.rows():
            self.assertIsNone(band.check_row(row))
        self.assertIsNone(band.check_row(row="01"))
        for value in any_values() + [band, "000", "02", ["0."], ("0", ".")]:
            if not (isinstance(value, str) and value in oracle.all_rows(CELLS)):
                check_raises(self, BadRow, {"row": value}, band.check_row, value)
                check_raises(self, BadRow, {"row": value}, band.made_of, value)
                check_raises(self, BadRow, {"row": value}, band.above, value)
                check_raises(self, BadRow, {"row": value}, band.come, value)
        for row in ("00", "1.", ".0", "10"):
            check_raises(self, NotInBand, {"row": row}, band.check_row, row)
            check_raises(self, NotInBand, {"row": row}, band.made_of, row)
            check_raises(self, NotInBand, {"row": row}, band.above, row)

    def test_in(self):
        for band in oracle.random_bands(4, 30):
            for row in oracle.all_rows(band.cells()):
                self.assertIs(row in band, row in oracle.closure(band.size, band.seeds()))
        for value in any_values() + [example(), ["0."], "++", "0", "000"]:
            self.assertIs(value in example(), isinstance(value, str) and value in ("..", "0."), repr(value))

    def test_same_rows(self):
        band = example()
        self.assertIs(band.same_rows(Band(CELLS, ["11", ".1", "01", "0."])), True)
        self.assertIs(band.same_rows(other=band), True)
        self.assertIs(band.same_rows(Band(CELLS, ["0.", ".1"])), False)
        self.assertIs(band.same_rows(Band([("a", 2), ("c", 2)], SEEDS)), False)
        self.assertIs(band.same_rows(Band([("a", 2), ("b", 3)], SEEDS)), False)

    def test_equal(self):
        self.assertTrue(example() == Band(tuple(CELLS), tuple(SEEDS)))
        self.assertFalse(example() != Band(CELLS, SEEDS))
        self.assertTrue(example() != Band(CELLS, ["0.", "11", ".1"]))
        self.assertTrue(example() != Band([("a", 2), ("b", 3)], SEEDS))
        self.assertTrue(example() != Band([("a", 2), ("c", 2)], SEEDS))
        for value in any_values() + [example().text(), example().rows(), Block(example(), [])]:
            self.assertIs(example() == value, False)
            self.assertIs(value == example(), False)

    def test_len_and_repr(self):
        self.assertEqual((len(example()), repr(example())), (5, "Band(2 cells, 5 rows)"))
        self.assertEqual(repr(Band([("a", 1)], ["0"])), "Band(1 cells, 2 rows)")
        self.assertTrue(example())

    def test_facts(self):
        for band in oracle.random_bands(5, 20, 3):
            rows = band.rows()
            self.assertTrue(all(oracle.over(x, y) in band for x in rows for y in rows))
            lots = band.lots()
            self.assertTrue(all(oracle.over(one, other) in lots for one in lots for other in lots))
            self.assertTrue(band.full_rows())


class FromBandsTest(unittest.TestCase):
    def test_with_seed(self):
        band = example().with_seed("1.")
        self.assertEqual(band, Band(CELLS, ["0.", ".1", "11", "1."]))
        self.assertEqual(example().with_seed(seed="00").seeds(), ["0.", ".1", "11", "00"])
        for value in any_values() + ["..", "0.", ".1", "11", "02", "0", example()]:
            if not (isinstance(value, str) and value in ("00", "1.", ".0", "10", "01")):
                check_raises(self, BadSeed, {"at": 3}, example().with_seed, value)

    def test_with_seed_of_a_small_most(self):
        band = Band(CELLS, SEEDS, most=5)
        self.assertEqual(len(band.with_seed("1.").with_seed(".0")), 9)

    def test_with_seed_too_many(self):
        cells = [(name, 4) for name in "abcd"]
        band = Band(cells, full_seeds(30))
        check_raises(self, TooMany, {"most": 30}, band.with_seed, None)
        check_raises(self, TooMany, {"most": 30}, band.with_seed, "3333")
        cells, seeds = rows_801()
        some = Band(cells, [seed for seed in seeds if seed != "1....."])
        check_raises(self, TooMany, {"most": 800}, some.with_seed, "1.....")

    def test_without_seed(self):
        self.assertEqual(example().without_seed("11"), Band(CELLS, ["0.", ".1"]))
        self.assertEqual(example().without_seed(seed="0."), Band(CELLS, [".1", "11"]))
        check_raises(self, Untold, {"cell": "b"}, Band(CELLS, ["0.", ".1"]).without_seed, ".1")
        check_raises(self, Untold, {"cell": "a"}, Band(CELLS, ["01"]).without_seed, "01")
        for value in any_values() + ["..", "01", "1.", example(), SEEDS]:
            if value != "0.":
                check_raises(self, BadSeed, {"at": -1}, example().without_seed, value)

    def test_inside(self):
        band = Band([("a", 2), ("b", 2), ("c", 2)], ["1.1", "0..", ".1.", "00.", "..0", "111"])
        self.assertEqual(band.inside("+.+"), Band([("a", 2), ("c", 2)], ["11", "0.", ".0"]))
        self.assertEqual(band.inside("+.."), Band([("a", 2)], ["0"]))
        self.assertEqual(band.inside(lot="+++"), band)
        self.assertEqual(band.inside("++."), Band([("a", 2), ("b", 2)], ["0.", ".1", "00"]))

    def test_inside_has_the_rows_within(self):
        for band in oracle.random_bands(6, 40):
            for lot in band.lots()[1:]:
                rows = [row for row in band.rows() if oracle.inside(oracle.lot_of(row), lot)]
                cut = ["".join(sign for sign, at in zip(row, lot) if at == "+") for row in rows]
                self.assertEqual(band.inside(lot).rows(), sorted(cut))

    def test_bad_lots(self):
        band = Band([("a", 2), ("b", 2)], ["0.", "11"])
        for value in any_values() + ["..", ".+", "+", "+++", "0.", band, ["+."], ["+", "."]]:
            if value != "++":
                check_raises(self, BadLot, {"lot": value}, band.inside, value)

    def test_onto(self):
        band = Band([("a", 2), ("b", 2), ("c", 2)], ["1.1", "0..", ".1.", "00.", "1.0"])
        self.assertEqual(band.onto(["a"]), Band([("a", 2)], ["1", "0"]))
        self.assertEqual(band.onto(["c", "a"]), Band([("a", 2), ("c", 2)], ["11", "0.", "10"]))
        self.assertEqual(band.onto(cells=("b", "a", "c")), band)
        self.assertEqual(band.onto(["b"]).seeds(), ["1", "0"])

    def test_onto_has_the_signs_of_the_rows(self):
        source = random.Random(8)
        for band in oracle.random_bands(7, 60):
            names = source.sample(band.names(), source.randint(1, band.size))
            places = [at for at, name in enumerate(band.names()) if name in names]
            rows = {"".join(row[place] for place in places) for row in band.rows()}
            self.assertEqual(band.onto(names).rows(), sorted(rows))

    def test_onto_of_wrong_cells(self):
        band = example()
        for value in any_values() + [band, "ab"]:
            if not isinstance(value, (list, tuple)) or not value:
                check_raises(self, BadCells, {"at": -1}, band.onto, value)
            if value != "a":
                check_raises(self, UnknownCell, {"name": value}, band.onto, [value])
                check_raises(self, UnknownCell, {"name": value}, band.onto, ["a", value, "z", "a"])
        check_raises(self, UnknownCell, {"name": "a"}, band.onto, ["a", "b", "a", None])
        check_raises(self, UnknownCell, {"name": "z"}, band.onto, ("z", "a", "a"))

    def test_above(self):
        band = Band([("a", 2), ("b", 2), ("c", 2)], ["1.1", "0..", ".1.", "00.", "1.0"])
        self.assertEqual(band.above("0.."), band.onto(["b", "c"]))
        self.assertEqual(band.above("..."), band)
        self.assertEqual(band.above(row="1.1"), band.onto(["b"]))
        check_raises(self, IsFull, {"row": "111"}, band.above, "111")
        check_raises(self, NotInBand, {"row": "..1"}, band.above, "..1")

    def test_above_has_the_rows_that_lie_above(self):
        for band in oracle.random_bands(8, 40):
            for row in band.rows():
                if "." in row:
                    higher = [other for other in band.rows() if oracle.over(row, other) == other]
                    cut = ["".join(sign for sign, beside in zip(other, row) if beside == ".") for other in higher]
                    self.assertEqual(band.above(row).rows(), sorted(cut))

    def test_side_by_side(self):
        both = example() * Band([("c", 3)], ["2", "0"])
        self.assertEqual(both, Band([("a", 2), ("b", 2), ("c", 3)], ["0..", ".1.", "11.", "..2", "..0"]))
        bands = oracle.random_bands(9, 20, 2)
        for one in bands:
            other = Band([(name * 2, many) for name, many in bands[0].cells()], bands[0].seeds())
            self.assertEqual((one * other).rows(), sorted(x + y for x in one.rows() for y in other.rows()))

    def test_side_by_side_with_a_name_that_stands_ahead(self):
        check_raises(self, BadCells, {"at": 2}, lambda: example() * example())
        check_raises(self, BadCells, {"at": 3}, lambda: example() * Band([("c", 2), ("b", 2), ("a", 2)], ["000"]))
        wide = Band(TWELVE, ["3" * 12])
        check_raises(self, BadCells, {"at": 14}, lambda: wide * Band([("m", 1), ("n", 1), ("a", 1)], ["000"]))

    def test_side_by_side_too_many(self):
        wide = Band(TWELVE, ["3" * 12])
        check_raises(self, BadCells, {"at": -1}, lambda: wide * Band([("m", 1)], ["0"]))
        eleven = Band(TWELVE[:11], ["3" * 11])
        self.assertEqual((eleven * Band([("m", 1)], ["0"])).size, 12)
        cells = [(name, 4) for name in "abcd"]
        one, other = Band(cells, full_seeds(15)), Band([(name * 2, 4) for name, _ in cells], full_seeds(16))
        self.assertEqual(len(one * other.without_seed("0000")), 256)
        check_raises(self, TooMany, {"most": 30}, lambda: one * other)
        five = Band([(name * 2, 1) for name in "klmno"], singles(5, 1)[1])
        self.assertEqual(len(Band(cells, full_seeds(24)) * five), 800)
        check_raises(self, TooMany, {"most": 800}, lambda: Band(cells, full_seeds(25)) * five)
        check_raises(self, TooMany, {"most": 30}, lambda: Band(cells, full_seeds(26)) * five)
        check_raises(self, TooMany, {"most": 800}, lambda: Band(*singles(5, 3)) * Band([("m", 1)], ["0"]))
        self.assertEqual(len(Band(*rows_800()[:2]).onto(["b", "c", "d", "e"]) * Band([("a", 1)], ["0"])), 800)

    def test_side_by_side_with_something_else(self):
        for value in (None, 2, "a", [1], (1, 2)):
            with self.assertRaises(TypeError):
                example() * value

    def test_bands_stay(self):
        band, other = example(), Band([("c", 1)], ["0"])
        band.with_seed("1.").without_seed("11")
        band.inside("+."), band.onto(["a"]), band.above("0."), band * other
        self.assertTrue(same([band.cells(), band.seeds(), other.seeds()], [CELLS, SEEDS, ["0"]]))


if __name__ == "__main__":
    unittest.main()
