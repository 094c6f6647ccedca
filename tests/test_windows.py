"""The interface under newesttells/windows.py; promises [14], [16] and [17]."""

import collections
import itertools
import random
import unittest

from helpers import any_values, check_raises, same
from newesttells.bands import Band
from newesttells.errors import BadLot, BadMoments
from newesttells.streams import Stream
from newesttells.windows import least_windows, standing_counts, struck_cells
from test_streams import ROWS, band_of_14, example, some_streams, wrong_moments


def windows_of(stream):
    return [(start, end) for start in range(1, len(stream) + 1) for end in range(start, len(stream) + 1)]


class CountTest(unittest.TestCase):
    def test_the_stream_of_15(self):
        self.assertTrue(same(standing_counts(example()), {
            "..1": 1, ".10": 1, "01.": 1, "010": 1, "1..": 1, "1.1": 1, "110": 2, "111": 2}))

    def test_against_all_windows(self):
        for stream in some_streams(200, 60):
            counts = collections.Counter(stream.window(start=start, end=end) for start, end in windows_of(stream))
            self.assertTrue(same(standing_counts(stream), dict(sorted(counts.items()))))

    def test_few_moments(self):
        self.assertEqual(standing_counts(Stream(band_of_14())), {})
        self.assertEqual(standing_counts(Stream(band_of_14(), ["..."])), {"...": 1})
        self.assertEqual(standing_counts(Stream(band_of_14(), ["01."])), {"01.": 1})
        self.assertEqual(standing_counts(Stream(band_of_14(), ["01.", "...", "..."])), {"...": 3, "01.": 3})

    def test_400_moments(self):
        source = random.Random(202)
        stream = Stream(band_of_14(), [source.choice(["...", *ROWS]) for _ in range(400)])
        counts = standing_counts(stream)
        self.assertEqual(sum(counts.values()), 400 * 401 // 2)
        self.assertEqual(list(counts), sorted(counts))
        same_row = Stream(band_of_14(), ["01."] * 400)
        self.assertEqual(standing_counts(same_row), {"01.": 400 * 401 // 2})

    def test_the_stream_stays_and_dicts_are_new(self):
        stream = example()
        standing_counts(stream).clear()
        self.assertEqual(stream, example())
        self.assertEqual(len(standing_counts(stream=stream)), 8)


class LeastWindowTest(unittest.TestCase):
    def least(self, stream, lot):
        """The least windows by the words of [17]."""
        def tells(start, end):
            return all(any(row[k] != "." for row in stream.rows()[start - 1:end])
                       for k, sign in enumerate(lot) if sign == "+")
        found = [window for window in windows_of(stream) if tells(*window)]
        return [(start, end) for start, end in found
                if not any((a, b) != (start, end) and start <= a and b <= end for a, b in found)]

    def test_the_stream_of_15(self):
        stream = example()
        self.assertTrue(same(least_windows(stream, "+++"), [(1, 2), (2, 3)]))
        self.assertEqual(least_windows(stream, "+.+"), [(1, 2), (2, 3), (3, 4)])
        self.assertEqual(least_windows(stream, ".+."), [(1, 1), (2, 2)])

    def test_against_the_words(self):
        for stream in some_streams(210, 60, 8):
            for signs in itertools.product("+.", repeat=stream.band.size):
                lot = "".join(signs)
                self.assertTrue(same(least_windows(stream, lot), self.least(stream, lot)), (stream.rows(), lot))

    def test_nothing(self):
        self.assertEqual(least_windows(example(), "..."), [(1, 1), (2, 2), (3, 3), (4, 4)])
        self.assertEqual(least_windows(Stream(band_of_14(), ["...", "..."]), "..."), [(1, 1), (2, 2)])
        self.assertEqual(least_windows(Stream(band_of_14()), "..."), [])
        self.assertEqual(least_windows(Stream(band_of_14()), "+++"), [])
        self.assertEqual(least_windows(Stream(band_of_14(), ["01.", "..."]), "..+"), [])

    def test_lots_for_the_cells_that_are_none_of_the_band(self):
        stream = Stream(Band([("a", 2), ("b", 2)], ["01"]), ["01", "..", "01"])
        self.assertEqual(least_windows(stream=stream, lot=".+"), [(1, 1), (3, 3)])

    def test_wrong_lots(self):
        for value in any_values() + [example(), "01.", "++.+", "..", "+++ ", band_of_14(), ["+", "+", "+"]]:
            check_raises(self, BadLot, {"lot": value}, least_windows, example(), value)
            check_raises(self, BadLot, {"lot": value}, least_windows, Stream(band_of_14()), value)

    def test_the_stream_stays(self):
        stream = example()
        least_windows(stream, "+++").clear()
        self.assertEqual([stream, least_windows(stream, "+++")], [example(), [(1, 2), (2, 3)]])

    def test_400_moments(self):
        stream = Stream(band_of_14(), ["01.", ".10"] * 200)
        self.assertEqual(least_windows(stream, "+++"), [(at, at + 1) for at in range(1, 400)])


class StruckTest(unittest.TestCase):
    def test_the_stream_of_15(self):
        self.assertEqual(struck_cells(example(), [1]), [])
        self.assertEqual(struck_cells(example(), [3]), ["a"])
        self.assertEqual(struck_cells(example(), (4, 2, 1)), ["b", "c"])
        self.assertEqual(struck_cells(stream=example(), moments=[1, 2, 3, 4]), ["a", "b", "c"])
        self.assertEqual(struck_cells(example(), []), [])
        self.assertEqual(struck_cells(Stream(band_of_14()), []), [])

    def test_against_striking(self):
        source = random.Random(220)
        for stream in some_streams(221, 100):
            rows, before = stream.rows(), stream.standing
            struck = source.sample(range(1, len(rows) + 1), source.randint(0, len(rows)))
            cells = struck_cells(stream, struck)
            self.assertEqual(stream.rows(), rows)
            stream.strike(struck)
            unlike = [name for name, x, y in zip(stream.band.names(), before, stream.standing) if x != y]
            self.assertEqual(cells, unlike)

    def test_by_the_fact(self):
        source = random.Random(222)
        for stream in some_streams(223, 60):
            rows = stream.rows()
            struck = source.sample(range(1, len(rows) + 1), source.randint(0, len(rows)))
            left = [row for at, row in enumerate(rows) if at + 1 not in struck]
            expected = []
            for k, name in enumerate(stream.band.names()):
                told = [row[k] for row in rows if row[k] != "."]
                kept = [row[k] for row in left if row[k] != "."]
                if told and (not kept or kept[-1] != told[-1]):
                    expected.append(name)
            self.assertEqual(struck_cells(stream, struck), expected)

    def test_wrong_moments(self):
        stream = example()
        for value in any_values() + [stream, "12"]:
            if not isinstance(value, (list, tuple)):
                check_raises(self, BadMoments, {"at": -1}, struck_cells, stream, value)
        for value in wrong_moments(1, 4):
            check_raises(self, BadMoments, {"at": 0}, struck_cells, stream, [value])
            check_raises(self, BadMoments, {"at": 1}, struck_cells, stream, (2, value, 2))
        check_raises(self, BadMoments, {"at": 2}, struck_cells, stream, [3, 2, 3, None])
        check_raises(self, BadMoments, {"at": 0}, struck_cells, Stream(band_of_14()), [1])


if __name__ == "__main__":
    unittest.main()
