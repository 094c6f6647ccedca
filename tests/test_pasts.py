"""The interface under newesttells/pasts.py; promises [20], [21] and [22]."""

import random
import unittest

import oracle
from helpers import check_raises, same
from newesttells.errors import BadRow, NoMoment, NotInBand
from newesttells.pasts import exchange_cell, latest_idle, seen, shows_until
from newesttells.streams import Stream
from test_streams import ROWS, band_of_14, example, some_streams, standing_of, wrong_moments, wrong_rows


def put(rows, row, behind):
    return [*rows[:behind], row, *rows[behind:]]


def stretch_of(rows, row, behind, k):
    """The stretch of a cell, and whether it is changing, by the words of [20]."""
    changed = put(rows, row, behind)
    newer = [moment for moment in range(behind + 2, len(changed) + 1) if changed[moment - 1][k] != "."]
    older = [moment for moment in range(1, behind + 1) if changed[moment - 1][k] != "."]
    last = newer[0] - 1 if newer else None
    return behind + 1, last, not older or changed[older[-1] - 1][k] != row[k]


class SeenTest(unittest.TestCase):
    def test_the_example(self):
        stream = example()
        self.assertEqual([seen(stream, "1..", behind=0), latest_idle(stream, "01."), latest_idle(stream, "1..")],
                         [[("a", 1, 1, True)], 2, 4])

    def test_all_places(self):
        for stream in some_streams(300, 40, 7):
            rows = stream.rows()
            for row in stream.band.rows():
                for behind in range(len(rows) + 1):
                    expected = [(name, *stretch_of(rows, row, behind, k))
                                for k, name in enumerate(stream.band.names()) if row[k] != "."]
                    self.assertTrue(same(seen(stream, row, behind=behind), expected))

    def test_the_facts(self):
        for stream in some_streams(302, 30, 6):
            rows, many = stream.rows(), stream.band.size
            for row in stream.band.rows():
                for behind in range(len(rows) + 1):
                    self.check_facts(rows, many, row, behind, seen(stream, row, behind=behind),
                                     stream.band.names(), shows_until(stream, row, behind=behind))

    def check_facts(self, rows, many, row, behind, stretches, names, shown):
        changed = put(rows, row, behind)
        last_shown = 0
        for end in range(behind + 1, len(changed) + 1):
            now = standing_of(many, changed[:end])
            without = standing_of(many, rows[:end - 1])
            within = [(names.index(cell), changing) for cell, first, last, changing in stretches
                      if first <= end and (last is None or end <= last)]
            unlike = [k for k in range(many) if now[k] != without[k]]
            self.assertEqual([k for k, changing in within if changing], unlike)
            self.assertTrue(all(now[k] == row[k] for k, _ in within))
            last_shown = end if unlike else last_shown
        self.assertTrue(same(shown, last_shown))

    def test_edges(self):
        empty = Stream(band_of_14())
        self.assertEqual(seen(empty, "01.", behind=0), [("a", 1, None, True), ("b", 1, None, True)])
        self.assertEqual(seen(stream=empty, row="...", behind=0), [])
        self.assertEqual(shows_until(empty, "01.", behind=0), 1)
        self.assertEqual(shows_until(stream=empty, row="...", behind=0), 0)
        self.assertEqual(seen(example(), "..1", behind=4), [("c", 5, None, False)])
        self.assertEqual(shows_until(example(), "..1", behind=4), 0)
        self.assertEqual(shows_until(example(), "01.", behind=4), 5)
        self.assertEqual(shows_until(example(), "01.", behind=1), 0)
        self.assertEqual(shows_until(example(), "..1", behind=2), 4)

    def test_a_stream_of_400(self):
        stream = Stream(band_of_14(), ["01."] * 400)
        self.assertEqual(seen(stream, "1..", behind=399), [("a", 400, 400, True)])
        self.assertEqual(seen(stream, "1..", behind=400), [("a", 401, None, True)])
        self.assertEqual(shows_until(stream, "1..", behind=400), 401)
        self.assertEqual(shows_until(stream, "..1", behind=0), 401)
        self.assertEqual([latest_idle(stream, "01."), latest_idle(stream, "1.."), latest_idle(stream, "..1")],
                         [400, 399, None])
        self.assertEqual(len(stream), 400)

    def test_wrong_values(self):
        stream = example()
        for call in (seen, shows_until):
            for value in wrong_rows():
                check_raises(self, BadRow, {"row": value}, call, stream, value, behind=0)
                check_raises(self, BadRow, {"row": value}, call, stream, value, behind=None)
            check_raises(self, NotInBand, {"row": "0.."}, call, stream, "0..", behind=True)
            for value in wrong_moments(0, 4):
                check_raises(self, NoMoment, {"moment": value}, call, stream, "01.", behind=value)
                check_raises(self, NoMoment, {"moment": value}, call, stream, "...", behind=value)
            with self.assertRaises(TypeError):
                call(stream, "01.", 0)

    def test_the_stream_stays(self):
        stream = example()
        seen(stream, "1..", behind=0).clear()
        shows_until(stream, "1..", behind=2)
        latest_idle(stream, "1..")
        exchange_cell(stream, 1)
        self.assertEqual(stream, example())
        self.assertEqual(seen(stream, "1..", behind=0), [("a", 1, 1, True)])


class IdleTest(unittest.TestCase):
    def test_against_putting(self):
        for stream in some_streams(310, 60, 7):
            rows, many = stream.rows(), stream.band.size
            for row in stream.band.rows():
                idle = [behind for behind in range(len(rows) + 1)
                        if standing_of(many, put(rows, row, behind)) == stream.standing]
                latest = latest_idle(stream, row)
                self.assertTrue(same(latest, max(idle, default=None)))
                self.assertEqual(idle, list(range(0 if latest is None else latest + 1)))

    def test_edges(self):
        empty = Stream(band_of_14())
        self.assertEqual([latest_idle(empty, "..."), latest_idle(stream=empty, row="01.")], [0, None])
        self.assertEqual([latest_idle(example(), "..."), latest_idle(example(), "111")], [4, 4])
        self.assertEqual(latest_idle(Stream(band_of_14(), ["1.."]), "01."), None)

    def test_wrong_rows(self):
        for value in wrong_rows():
            check_raises(self, BadRow, {"row": value}, latest_idle, example(), value)
        check_raises(self, NotInBand, {"row": "0.."}, latest_idle, example(), "0..")


class ExchangeTest(unittest.TestCase):
    def test_against_exchanging(self):
        for stream in some_streams(320, 100):
            for moment in range(1, len(stream)):
                cell = exchange_cell(stream, moment)
                twin = stream.twin()
                twin.exchange(moment)
                unlike = [name for name, x, y in zip(stream.band.names(), stream.standing, twin.standing) if x != y]
                self.assertEqual(cell, unlike[0] if unlike else None)

    def test_the_stream_of_15(self):
        self.assertEqual([exchange_cell(example(), moment) for moment in (1, 2, 3)], [None, None, None])
        stream = Stream(band_of_14(), ["01.", "1..", "01."])
        self.assertEqual([exchange_cell(stream, 1), exchange_cell(stream=stream, moment=2)], [None, "a"])

    def test_wrong_moments(self):
        for count in (0, 1, 2, 4):
            stream = Stream(band_of_14(), ROWS[:count])
            for value in wrong_moments(1, count - 1):
                check_raises(self, NoMoment, {"moment": value}, exchange_cell, stream, value)


class RandomLongTest(unittest.TestCase):
    def test_long_streams(self):
        source = random.Random(330)
        for band in oracle.random_bands(331, 5):
            rows = [source.choice(band.rows()) for _ in range(200)]
            stream = Stream(band, rows)
            row, behind = source.choice(band.rows()), source.randint(150, 200)
            expected = [(name, *stretch_of(rows, row, behind, k))
                        for k, name in enumerate(band.names()) if row[k] != "."]
            self.assertEqual(seen(stream, row, behind=behind), expected)


if __name__ == "__main__":
    unittest.main()
