"""The interface under newesttells/counts.py; promises [25] and [26]."""

import collections
import itertools
import unittest

import oracle
from helpers import any_values, check_raises, same
from newesttells.bands import Band
from newesttells.counts import count_leaving, count_with_tellers, fewest_deeds, number_of, numbered
from newesttells.errors import BadNumber, BadRow, BadSeed, Never, NotInBand, TooMany
from newesttells.streams import Stream
from test_bands import rows_800, singles
from test_streams import standing_of, wrong_rows

CELLS = [("a", 2), ("b", 2)]
SEEDS = ["0.", ".1", "11"]


def band_of_8():
    return Band(CELLS, SEEDS)


def streams_of(band, count):
    """All seed streams of one length, by the order of [25]."""
    newest_first = itertools.product(range(len(band.seeds())), repeat=count)
    return [[band.seeds()[index] for index in indexes[::-1]] for indexes in newest_first]


def by_standing(band, count):
    found = collections.defaultdict(list)
    for stream in streams_of(band, count):
        found[standing_of(band.size, stream)].append(stream)
    return found


def small_bands(seed, count):
    return oracle.random_bands(seed, count, 3, 2, 4)


def wrong_numbers(least, most):
    return [value for value in any_values() + [least - 1, most + 1, 10 ** 30, band_of_8(), [1], (1,), "1"]
            if type(value) is not int or not least <= value <= most]


class CountTest(unittest.TestCase):
    def test_the_band_of_8(self):
        band = band_of_8()
        self.assertEqual([count_leaving(band, row, seeds=2) for row in band.rows()], [0, 1, 1, 3, 4])
        self.assertEqual([count_leaving(band, "11", seeds=4), count_leaving(band=band, row="01", seeds=4)], [40, 39])
        self.assertEqual([count_with_tellers(band, "11", seeds=4, tellers=count) for count in range(4)], [0, 27, 13, 0])

    def test_against_all_seed_streams(self):
        for band in small_bands(500, 25):
            for count in range(5):
                found = by_standing(band, count)
                for row in band.rows():
                    self.check_counts(band, row, count, found[row])

    def check_counts(self, band, row, count, streams):
        self.assertTrue(same(count_leaving(band, row, seeds=count), len(streams)))
        tellers = collections.Counter(len(Stream(band, stream).tellers()) for stream in streams)
        for many in range(6):
            counted = count_with_tellers(band, row, seeds=count, tellers=many)
            self.assertTrue(same(counted, tellers[many]), (band.seeds(), row, count, many))

    def test_0_seeds(self):
        band = band_of_8()
        self.assertEqual([count_leaving(band, row, seeds=0) for row in band.rows()], [1, 0, 0, 0, 0])
        self.assertEqual([count_with_tellers(band, "..", seeds=0, tellers=count) for count in (0, 1, 60)], [1, 0, 0])
        self.assertEqual(count_leaving(band, "..", seeds=1), 0)
        self.assertEqual(count_with_tellers(band, "..", seeds=1, tellers=0), 0)

    def test_60_seeds(self):
        band = band_of_8()
        counts = [count_leaving(band, row, seeds=60) for row in band.rows()]
        self.assertEqual(counts[:3], [0, 1, 1])
        self.assertEqual(sum(counts), 3 ** 60)
        for row in ("01", "11"):
            by_tellers = [count_with_tellers(band, row, seeds=60, tellers=count) for count in range(61)]
            self.assertEqual(sum(by_tellers), count_leaving(band, row, seeds=60))
            self.assertEqual(by_tellers[3:], [0] * 58)

    def test_a_band_with_800_rows(self):
        band = Band(*rows_800())
        row = band.full_rows()[-1]
        total = count_leaving(band, row, seeds=60)
        self.assertEqual(sum(count_with_tellers(band, row, seeds=60, tellers=count) for count in range(6)), total)
        self.assertEqual(count_with_tellers(band, row, seeds=60, tellers=5), total)
        number = total - 1
        stream = numbered(band, row, number, seeds=60)
        self.assertEqual([number_of(band, stream), standing_of(5, stream)], [number, row])

    def test_twelve_cells_are_told_by_as_many_tellers(self):
        cells, seeds = singles(9, 1)
        band = Band(cells, seeds)
        self.assertEqual(count_leaving(band, "0" * 9, seeds=9), 362880)
        self.assertEqual(count_with_tellers(band, "0" * 9, seeds=9, tellers=9), 362880)

    def test_wrong_values(self):
        band = band_of_8()
        for value in wrong_rows():
            if value not in ("01", "..", "0."):
                check_raises(self, BadRow, {"row": value}, count_leaving, band, value, seeds=None)
                check_raises(self, BadRow, {"row": value}, count_with_tellers, band, value, seeds=61, tellers=None)
        check_raises(self, NotInBand, {"row": "00"}, count_leaving, band, "00", seeds=-1)
        check_raises(self, NotInBand, {"row": "00"}, count_with_tellers, band, "00", seeds=-1, tellers=-1)
        for value in wrong_numbers(0, 60):
            check_raises(self, BadNumber, {"value": value}, count_leaving, band, "01", seeds=value)
            check_raises(self, BadNumber, {"value": value}, count_with_tellers, band, "01", seeds=value, tellers=61)
            check_raises(self, BadNumber, {"value": value}, count_with_tellers, band, "01", seeds=60, tellers=value)

    def test_numbers_are_passed_by_name_alone(self):
        for call in (lambda: count_leaving(band_of_8(), "01", 2), lambda: numbered(band_of_8(), "01", 0, 2),
                     lambda: count_with_tellers(band_of_8(), "01", 2, tellers=1)):
            with self.assertRaises(TypeError):
                call()


class NumberTest(unittest.TestCase):
    def test_against_all_seed_streams(self):
        for band in small_bands(510, 20):
            for count in range(5):
                for row, streams in by_standing(band, count).items():
                    for number, stream in enumerate(streams):
                        self.assertTrue(same(number_of(band, stream), number))
                        self.assertTrue(same(numbered(band, row, number, seeds=count), stream))

    def test_the_empty_stream(self):
        self.assertTrue(same(number_of(band_of_8(), []), 0))
        self.assertTrue(same(number_of(band=band_of_8(), stream=()), 0))
        self.assertTrue(same(numbered(band_of_8(), "..", 0, seeds=0), []))
        check_raises(self, BadNumber, {"value": 0}, numbered, band_of_8(), "01", 0, seeds=0)
        check_raises(self, BadNumber, {"value": 0}, numbered, band_of_8(), "..", 0, seeds=1)

    def test_the_first_and_the_last_number(self):
        band = band_of_8()
        for row in (".1", "0.", "01", "11"):
            for seeds in (2, 60):
                last = count_leaving(band, row, seeds=seeds) - 1
                for number in (0, last):
                    stream = numbered(band=band, row=row, number=number, seeds=seeds)
                    self.assertEqual([len(stream), standing_of(2, stream)], [seeds, row])
                    self.assertEqual(number_of(band, stream), number)
                for number in (-1, last + 1):
                    check_raises(self, BadNumber, {"value": number}, numbered, band, row, number, seeds=seeds)
        self.assertEqual(numbered(band, "11", 0, seeds=60), ["11"] + [".1"] * 59)

    def test_60_and_61_seeds(self):
        band = band_of_8()
        self.assertEqual(number_of(band, ["0."] * 60), 0)
        check_raises(self, TooMany, {"most": 60}, number_of, band, ["0."] * 61)
        check_raises(self, TooMany, {"most": 60}, number_of, band, [None] * 61)

    def test_wrong_seeds(self):
        band = band_of_8()
        for value in any_values() + ["..", "01", "00", band, ["0."]]:
            if value != "0.":
                check_raises(self, BadSeed, {"at": 0}, number_of, band, [value])
                check_raises(self, BadSeed, {"at": 2}, number_of, band, ("0.", "0.", value, None))

    def test_wrong_values(self):
        band = band_of_8()
        for value in wrong_rows():
            if value not in ("01", "..", "0."):
                check_raises(self, BadRow, {"row": value}, numbered, band, value, None, seeds=None)
        check_raises(self, NotInBand, {"row": "00"}, numbered, band, "00", -1, seeds=61)
        for value in wrong_numbers(0, 60):
            check_raises(self, BadNumber, {"value": value}, numbered, band, "01", -2, seeds=value)
        for value in wrong_numbers(0, 2):
            check_raises(self, BadNumber, {"value": value}, numbered, band, "01", value, seeds=2)

    def test_lists_are_not_changed(self):
        stream = ["0.", ".1"]
        number_of(band_of_8(), stream)
        self.assertEqual(stream, ["0.", ".1"])
        numbered(band_of_8(), "01", 0, seeds=2).clear()
        self.assertEqual(numbered(band_of_8(), "01", 0, seeds=2), [".1", "0."])


class WayTest(unittest.TestCase):
    def fewest(self, band, start, goal):
        for count in range(band.size + 1):
            for stream in streams_of(band, count):
                if standing_of(band.size, [start, *stream]) == goal:
                    return count
        return None

    def test_against_all_ways(self):
        for band in small_bands(520, 20):
            for start in band.rows():
                for goal in band.rows():
                    self.check_way(band, start, goal)

    def check_way(self, band, start, goal):
        untold = [name for name, x, y in zip(band.names(), start, goal) if x != "." and y == "."]
        if untold:
            check_raises(self, Never, {"cell": untold[0]}, fewest_deeds, band, start, goal)
            self.assertIsNone(self.fewest(band, start, goal))
        else:
            way = fewest_deeds(band, start, goal)
            self.assertIs(type(way), list)
            self.assertTrue(set(way) <= set(band.seeds()))
            self.assertEqual(standing_of(band.size, [start, *way]), goal)
            self.assertEqual(len(way), self.fewest(band, start, goal))
            self.assertEqual(fewest_deeds(band, start, goal), way)

    def test_edges(self):
        band = band_of_8()
        for row in band.rows():
            self.assertTrue(same(fewest_deeds(band=band, start=row, goal=row), []))
        self.assertEqual(fewest_deeds(band, "11", "01"), ["0."])
        self.assertEqual(sorted(fewest_deeds(band, "..", "01")), [".1", "0."])
        self.assertEqual(fewest_deeds(band, "01", "11"), ["11"])

    def test_many_cells(self):
        cells, seeds = singles(9, 1)
        self.assertEqual(sorted(fewest_deeds(Band(cells, seeds), "." * 9, "0" * 9)), sorted(seeds))
        band = Band(*rows_800())
        self.assertEqual(len(fewest_deeds(band, "00000", "02233")), 4)
        self.assertEqual(len(fewest_deeds(band, "00000", "02033")), 3)

    def test_wrong_rows(self):
        band = band_of_8()
        for value in wrong_rows():
            if value not in ("01", "..", "0."):
                check_raises(self, BadRow, {"row": value}, fewest_deeds, band, value, None)
                check_raises(self, BadRow, {"row": value}, fewest_deeds, band, "11", value)
        check_raises(self, NotInBand, {"row": "00"}, fewest_deeds, band, "00", None)
        check_raises(self, NotInBand, {"row": "00"}, fewest_deeds, band, "11", "00")
        check_raises(self, Never, {"cell": "a"}, fewest_deeds, band, "11", "..")
        check_raises(self, Never, {"cell": "b"}, fewest_deeds, band, "01", "0.")


if __name__ == "__main__":
    unittest.main()
