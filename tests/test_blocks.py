"""The interface under newesttells/blocks.py; promises [18] (blocks) and [14] (windows, standings, tellers)."""

import random
import unittest

import oracle
from helpers import any_values, check_raises, same
from newesttells.bands import Band
from newesttells.blocks import Block
from newesttells.errors import BadNumber, BadRow, NotInBand

CELLS = [("a", 2), ("b", 2), ("c", 2)]
ROWS = ["01.", ".10", "1..", "..1"]


def band_of_14():
    return Band(CELLS, ROWS)


def standing_of(many, rows):
    standing = "." * many
    for row in rows:
        standing = oracle.over(row, standing)
    return standing


def some_rows(source, band, most=8):
    return [source.choice(band.rows()) for _ in range(source.randint(0, most))]


class BlockTest(unittest.TestCase):
    def check(self, block, rows):
        self.assertEqual(block.length, len(rows))
        self.assertTrue(same(block.tellers(), oracle.tellers(rows)), (block.tellers(), rows))
        self.assertEqual(block.standing, standing_of(block.band.size, rows))

    def test_the_rows_of_14(self):
        block = Block(band_of_14(), ROWS)
        self.assertEqual([block.length, block.standing], [4, "111"])
        self.assertEqual(block.tellers(), [(4, "..1"), (3, "1.."), (2, ".10")])
        self.assertEqual(block.band, band_of_14())
        self.assertEqual(Block(band=band_of_14(), rows=tuple(ROWS)), block)

    def test_no_rows(self):
        for rows in ([], ()):
            block = Block(band_of_14(), rows)
            self.assertEqual([block.length, block.standing, block.tellers()], [0, "...", []])
            self.assertTrue(block)

    def test_blank_rows(self):
        block = Block(band_of_14(), ["...", "1..", "..."])
        self.assertEqual([block.length, block.standing, block.tellers()], [3, "1..", [(2, "1..")]])

    def test_against_the_words(self):
        source = random.Random(50)
        for band in oracle.random_bands(51, 80):
            rows = some_rows(source, band)
            self.check(Block(band, rows), rows)
            self.assertLessEqual(len(Block(band, rows).tellers()), band.size)

    def test_the_tellers_alone_have_the_same_standing(self):
        source = random.Random(52)
        for band in oracle.random_bands(53, 40):
            block = Block(band, some_rows(source, band))
            rows = [row for _, row in block.tellers()[::-1]]
            self.assertEqual(Block(band, rows).standing, block.standing)
            self.assertEqual(len(Block(band, rows).tellers()), len(rows))

    def test_400_rows(self):
        band = band_of_14()
        source = random.Random(54)
        rows = [source.choice(band.rows()) for _ in range(400)]
        block = Block(band, rows)
        self.check(block, rows)
        self.assertEqual(Block(band, rows[:150]) + Block(band, rows[150:]), block)
        spare = Block(band, ["01."] + ["1.."] * 399)
        self.assertEqual(spare.tellers(), [(400, "1.."), (1, "01.")])

    def test_the_first_wrong_row(self):
        band = band_of_14()
        for value in any_values() + [band, "0..", "02.", "00", Block(band, [])]:
            if value != "0..":
                check_raises(self, BadRow, {"row": value}, Block, band, [value])
                check_raises(self, BadRow, {"row": value}, Block, band, [*ROWS, value, "0..", None])
        check_raises(self, NotInBand, {"row": "0.."}, Block, band, ["01.", "0..", None])
        check_raises(self, NotInBand, {"row": "..0"}, Block, band, ["..0"])

    def test_lists_are_copied(self):
        rows = list(ROWS)
        block = Block(band_of_14(), rows)
        rows.clear()
        block.tellers().clear()
        self.assertEqual(block.tellers(), [(4, "..1"), (3, "1.."), (2, ".10")])
        self.assertEqual(block, Block(band_of_14(), ROWS))

    def test_properties_are_only_read(self):
        block = Block(band_of_14(), ROWS)
        for name in ("length", "standing"):
            with self.assertRaises(AttributeError):
                setattr(block, name, 1)


class JoinTest(unittest.TestCase):
    def test_joined(self):
        band = band_of_14()
        self.assertEqual(Block(band, ROWS[:2]) + Block(band, ROWS[2:]), Block(band, ROWS))
        self.assertEqual(Block(band, ROWS) + Block(band, []), Block(band, ROWS))
        self.assertEqual(Block(band, []) + Block(band, ROWS), Block(band, ROWS))
        self.assertEqual(Block(band, []) + Block(band, []), Block(band, []))

    def test_the_newer_block_stands_on_the_right(self):
        band = Band([("a", 2)], ["0", "1"])
        self.assertEqual((Block(band, ["0"]) + Block(band, ["1"])).tellers(), [(2, "1")])
        self.assertEqual((Block(band, ["1"]) + Block(band, ["0", "."])).tellers(), [(2, "0")])

    def test_against_the_rows_in_any_grouping(self):
        source = random.Random(55)
        for band in oracle.random_bands(56, 80):
            one, two, three = [some_rows(source, band, 5) for _ in range(3)]
            x, y, z = [Block(band, rows) for rows in (one, two, three)]
            self.assertEqual((x + y) + z, Block(band, one + two + three))
            self.assertEqual(x + (y + z), Block(band, one + two + three))
            self.assertEqual([x, y, z], [Block(band, rows) for rows in (one, two, three)])

    def test_joined_with_something_else(self):
        block = Block(band_of_14(), ROWS)
        for value in (None, 1, "0..", [], band_of_14()):
            with self.assertRaises(TypeError):
                block + value
            with self.assertRaises(TypeError):
                value + block

    def test_joined_with_an_equal_band(self):
        self.assertEqual((Block(band_of_14(), ROWS) + Block(band_of_14(), ROWS)).length, 8)


class RepeatTest(unittest.TestCase):
    def test_repeated_0_and_1_times(self):
        band = band_of_14()
        block = Block(band, ROWS)
        self.assertEqual(block * 0, Block(band, []))
        self.assertEqual(0 * block, Block(band, []))
        self.assertEqual([block * 1, 1 * block], [block, block])

    def test_against_the_rows(self):
        source = random.Random(57)
        for band in oracle.random_bands(58, 60):
            rows = some_rows(source, band, 5)
            for many in range(5):
                self.assertEqual(Block(band, rows) * many, Block(band, rows * many))
                self.assertEqual(many * Block(band, rows), Block(band, rows * many))

    def test_repeated_10_to_the_30_times(self):
        block = Block(band_of_14(), ROWS) * 10 ** 30
        end = 4 * 10 ** 30
        self.assertEqual(block.length, end)
        self.assertEqual(block.tellers(), [(end, "..1"), (end - 1, "1.."), (end - 2, ".10")])
        self.assertEqual(block.standing, "111")
        self.assertEqual((Block(band_of_14(), []) * 10 ** 30).length, 0)
        twice = 10 ** 30 * block
        self.assertEqual(twice.length, 4 * 10 ** 60)
        self.assertEqual(twice.tellers()[0], (4 * 10 ** 60, "..1"))
        joined = block + Block(band_of_14(), ["01."])
        self.assertEqual(joined.tellers(), [(end + 1, "01."), (end, "..1")])

    def test_wrong_numbers(self):
        block = Block(band_of_14(), ROWS)
        for value in any_values() + [10 ** 30 + 1, -1, block, band_of_14(), [1], (1,)]:
            if type(value) is not int or not 0 <= value <= 10 ** 30:
                check_raises(self, BadNumber, {"value": value}, lambda: block * value)
                check_raises(self, BadNumber, {"value": value}, lambda: value * block)

    def test_the_block_stays(self):
        block = Block(band_of_14(), ROWS)
        block * 3, 2 * block, block + block, block * 0
        self.assertEqual(block, Block(band_of_14(), ROWS))


class EqualTest(unittest.TestCase):
    def test_equal(self):
        band = band_of_14()
        self.assertTrue(Block(band, ["01.", "01."]) == Block(band_of_14(), ["1..", "01."]))
        self.assertTrue(Block(band, ["01."]) != Block(band, ["01.", "..."]))
        self.assertTrue(Block(band, ["01.", "..."]) != Block(band, ["...", "01."]))
        self.assertTrue(Block(band, ["1.."]) != Block(band, ["01."]))
        self.assertTrue(Block(band, []) == Block(band, []))
        self.assertTrue(Block(band, ["..."]) != Block(band, []))

    def test_other_bands(self):
        other = Band(CELLS, ROWS[::-1])
        self.assertTrue(Block(band_of_14(), ROWS) != Block(other, ROWS))
        self.assertTrue(Block(band_of_14(), []) != Block(other, []))

    def test_equals_nothing_of_another_class(self):
        block = Block(band_of_14(), ROWS)
        for value in any_values() + [band_of_14(), block.tellers(), ROWS]:
            self.assertIs(block == value, False)
            self.assertIs(value == block, False)

    def test_repr(self):
        band = band_of_14()
        self.assertEqual([repr(Block(band, ROWS[:count])) for count in (0, 1, 4)],
                         ["Block(0 moments)", "Block(1 moments)", "Block(4 moments)"])
        self.assertEqual(repr(Block(band, ["..."]) * 10 ** 30), f"Block({10 ** 30} moments)")
        block = Block(band, ["..."])
        for _ in range(200):
            block = block * 10 ** 30
        self.assertEqual(repr(block), "Block(1" + "0" * 6000 + " moments)")

    def test_a_block_is_always_true(self):
        for rows in ([], ["..."], ROWS):
            self.assertIs(bool(Block(band_of_14(), rows)), True)


if __name__ == "__main__":
    unittest.main()
