"""The interface under newesttells/maps.py; promises [2], [7], [14], [29], [45] and [47]."""

import itertools
import random
import unittest

import oracle
from helpers import any_values, check_raises, error_of, same
from newesttells.bands import Band
from newesttells.books import Book
from newesttells.errors import BadCells, BadLot, BadPictures, BadRow, NotInBand, NotMap, UnknownCell
from newesttells.fronts import front_of, fronts_band
from newesttells.lists import list_of, lists_band
from newesttells.maps import BandMap, map_break, onto_map
from newesttells.piles import piles_band, piles_of, piles_row
from newesttells.streams import Stream
from test_books import bad_rows, band_of_8, drawn, example, pair
from test_streams import some_rows

ONE = Band([("x", 2)], ["0", "1"])
SQUARE = Band([("a", 2), ("b", 2)], ["0.", "1.", ".0", ".1"])


def standing(size, rows):
    row = "." * size
    for newer in rows:
        row = oracle.over(newer, row)
    return row


def makes_map(band, other, pictures):
    """Whether pictures make a map, from the words of [47], by all streams of up to one seed more than cells."""
    images = {}
    for many in range(band.size + 2):
        for seeds in itertools.product(band.seeds(), repeat=many):
            image = standing(other.size, [pictures[seed] for seed in seeds])
            if images.setdefault(standing(band.size, seeds), image) != image:
                return False
    return True


def some_pictures(source, band, other):
    return {seed: source.choice(other.rows()) for seed in band.seeds()}


def random_cases(seed, count):
    """Triples of two bands and pictures; some of them make a map and some do not."""
    source = random.Random(seed)
    bands = oracle.random_bands(seed + 1, count, 3, 3, 4)
    others = oracle.random_bands(seed + 2, count, 2, 2, 3)
    cases = [(band, other, some_pictures(source, band, other)) for band, other in zip(bands, others)]
    for band in bands:
        names = source.sample(band.names(), source.randint(1, band.size))
        pictures = onto_map(band, names).pictures()
        cases.append((band, band.onto(names), pictures))
        changed = dict(pictures)
        changed[source.choice(band.seeds())] = source.choice(band.onto(names).rows())
        cases.append((band, band.onto(names), changed))
    return cases


def wrong_pictures():
    """Values that are no pictures of the band of [8] in the band ONE."""
    made = [{}, {"0.": "0", ".1": "1"}, {"0.": "0", ".1": "1", "11": "1", "01": "0"}, {"0.": "0", ".1": "1", "01": "1"},
            {"0.": "0", ".1": "1", "11": "2"}, {"0.": "0", ".1": "1", "11": ""}, {"0.": "0", ".1": "1", "11": "00"},
            {"0.": "0", ".1": "1", "11": None}, {"0.": "0", ".1": 1, "11": "1"}, {"0.": ["0"], ".1": "1", "11": "1"},
            {"0.": "0", ".1": True, "11": "1"}, {"0.": "0", ".1": "1", 11: "1"}, {"0.": "0", ".1": "1", ("11",): "1"},
            {"0.": "0", ".1": ("1",), "11": "1"}, [("0.", "0"), (".1", "1"), ("11", "1")], ["0", "1", "1"], "011",
            {"0.": "0", ".1": "1", "..": "."}, {"0.": ONE, ".1": "1", "11": "1"}, ONE, example()]
    return any_values() + made


class BreakTest(unittest.TestCase):
    def check_break(self, band, other, pictures, found):
        self.assertEqual([type(found), len(found)], [tuple, 2])
        self.assertTrue(all(type(seeds) is list and set(seeds) <= set(band.seeds()) for seeds in found))
        one, other_seeds = found
        self.assertEqual(standing(band.size, one), standing(band.size, other_seeds))
        self.assertNotEqual(standing(other.size, [pictures[seed] for seed in one]),
                            standing(other.size, [pictures[seed] for seed in other_seeds]))

    def test_against_the_words(self):
        maps = 0
        for band, other, pictures in random_cases(1500, 60):
            found = map_break(band, other, pictures)
            self.assertEqual(found is None, makes_map(band, other, pictures))
            maps += found is None
            if found is not None:
                self.check_break(band, other, pictures, found)
                self.assertEqual(map_break(band, other, dict(reversed(list(pictures.items())))), found)
                check_raises(self, NotMap, {"one": found[0], "other": found[1]}, BandMap, band, other, pictures)
        self.assertTrue(80 < maps < 150, maps)

    def test_one_picture_of_each_seed_over_each_row(self):
        """The fact about rows and seeds."""
        for band, other, pictures in random_cases(1510, 30):
            images = {}
            for many in range(band.size + 1):
                for seeds in itertools.product(band.seeds(), repeat=many):
                    images.setdefault(standing(band.size, seeds), set()).add(
                        standing(other.size, [pictures[seed] for seed in seeds]))
            single = all(len(some) == 1 for some in images.values())
            right = single and all(images[oracle.over(seed, row)] == {oracle.over(pictures[seed], min(images[row]))}
                                   for row in band.rows() for seed in band.seeds())
            self.assertEqual(right, map_break(band, other, pictures) is None)

    def test_some_pictures(self):
        self.assertIsNone(map_break(band_of_8(), ONE, {"0.": "0", ".1": ".", "11": "1"}))
        self.assertIsNone(map_break(band=band_of_8(), other=ONE, pictures={"11": ".", "0.": ".", ".1": "."}))
        self.assertIsNone(map_break(band_of_8(), ONE, {"0.": "0", ".1": "0", "11": "0"}))
        # 0. and .1 leave 01 in both orders.
        found = map_break(band_of_8(), ONE, {"0.": "0", ".1": "1", "11": "1"})
        self.check_break(band_of_8(), ONE, {"0.": "0", ".1": "1", "11": "1"}, found)
        # 11 over .1 is 11 itself.
        pictures = {"0.": ".", ".1": "0", "11": "."}
        self.check_break(band_of_8(), ONE, pictures, map_break(band_of_8(), ONE, pictures))

    def test_wrong_pictures(self):
        for value in wrong_pictures():
            check_raises(self, BadPictures, {}, map_break, band_of_8(), ONE, value)
            check_raises(self, BadPictures, {}, BandMap, band_of_8(), ONE, value)

    def test_pictures_stay(self):
        pictures = {"11": "1", ".1": ".", "0.": "0"}
        made = BandMap(band_of_8(), ONE, pictures)
        map_break(band_of_8(), ONE, pictures)
        self.assertEqual(list(pictures.items()), [("11", "1"), (".1", "."), ("0.", "0")])
        pictures["11"] = "0"
        made.pictures()["11"] = "0"
        self.assertTrue(same(made.pictures(), {".1": ".", "0.": "0", "11": "1"}))
        self.assertEqual(made("11"), "1")


class MapTest(unittest.TestCase):
    def some_maps(self, seed, count=30):
        return [BandMap(*case) for case in random_cases(seed, count) if map_break(*case) is None]

    def test_pictures_of_rows(self):
        for made in self.some_maps(1520):
            pictures = made.pictures()
            for many in range(made.band.size + 1):
                for seeds in itertools.product(made.band.seeds(), repeat=many):
                    row = standing(made.band.size, seeds)
                    image = standing(made.other.size, [pictures[seed] for seed in seeds])
                    self.assertTrue(same([made.picture(row), made.picture(row=row), made(row), made(row=row)],
                                         [image] * 4))
            for x, y in itertools.product(made.band.rows(), repeat=2):
                self.assertEqual(made(oracle.over(x, y)), oracle.over(made(x), made(y)))

    def test_attributes_and_order(self):
        pictures = {"11": "1", ".1": ".", "0.": "0"}
        made = BandMap(band=band_of_8(), other=ONE, pictures=pictures)
        self.assertEqual([made.band, made.other, repr(made)], [band_of_8(), ONE, "BandMap(3 seeds)"])
        self.assertEqual(list(made.pictures()), [".1", "0.", "11"])
        self.assertEqual(repr(BandMap(ONE.inside("+"), ONE, {"0": ".", "1": "."})), "BandMap(2 seeds)")
        self.assertEqual(repr(BandMap(Band([("a", 1)], ["0"]), ONE, {"0": "1"})), "BandMap(1 seeds)")
        self.assertEqual([made(row) for row in band_of_8().rows()], [".", ".", "0", "0", "1"])

    def test_wrong_rows(self):
        made = onto_map(band_of_8(), ["a"])
        for value in bad_rows():
            check_raises(self, BadRow, {"row": value}, made.picture, value)
            check_raises(self, BadRow, {"row": value}, made, value)
        for call in (made, made.picture):
            check_raises(self, NotInBand, {"row": "00"}, call, "00")
            check_raises(self, NotInBand, {"row": "1."}, call, "1.")

    def test_lots(self):
        for made in self.some_maps(1530):
            for lot in made.band.lots():
                rows = [row for row in made.band.rows() if oracle.lot_of(row) == lot]
                self.assertEqual({oracle.lot_of(made(row)) for row in rows}, {made.picture_lot(lot)})
                self.assertTrue(same(made.picture_lot(lot=lot), oracle.lot_of(made(rows[-1]))))

    def test_wrong_lots(self):
        made = onto_map(Band([("a", 2), ("b", 2)], ["0.", "11"]), ["b"])
        for value in any_values() + [".+", "+", "+++", "0.", "+0", band_of_8(), ["++"]]:
            if value not in ("..", "++"):
                check_raises(self, BadLot, {"lot": value}, made.picture_lot, value)
        self.assertEqual([made.picture_lot(lot) for lot in ("..", "+.", "++")], [".", ".", "+"])

    def test_streams(self):
        source = random.Random(1541)
        for made in self.some_maps(1540):
            stream = Stream(made.band, some_rows(source, made.band))
            image = made.picture_stream(stream)
            self.assertEqual(image, Stream(made.other, [made(row) for row in stream.rows()]))
            self.assertEqual(image.standing, made(stream.standing))
            self.assertEqual(made.picture_stream(stream=stream), image)
            # An end is not later than before.
            for end, before in zip(image.ends(), stream.ends()):
                self.assertTrue(before is None or end is not None and end <= before)
            if len(stream):
                stream.take(1)
                self.assertEqual(len(image), len(stream) + 1)

    def test_great_streams(self):
        made = onto_map(band_of_8(), ["b"])
        stream = Stream(band_of_8(), ["0.", "11"] * 200)
        self.assertEqual(made.picture_stream(stream).rows(), [".", "1"] * 200)
        self.assertEqual(made.picture_stream(Stream(band_of_8())), Stream(band_of_8().onto(["b"])))

    def test_equal(self):
        made = BandMap(band_of_8(), ONE, {"0.": "0", ".1": ".", "11": "1"})
        self.assertEqual(made, BandMap(band_of_8(), ONE, {"11": "1", "0.": "0", ".1": "."}))
        other = Band([("y", 2)], ["0", "1"])
        turned = Band([("a", 2), ("b", 2)], [".1", "0.", "11"])
        for unlike in (BandMap(band_of_8(), ONE, {"0.": "0", ".1": ".", "11": "0"}),
                       BandMap(band_of_8(), other, {"0.": "0", ".1": ".", "11": "1"}),
                       BandMap(turned, ONE, {"0.": "0", ".1": ".", "11": "1"})):
            self.assertNotEqual(made, unlike)
            self.assertFalse(made == unlike)
        for value in any_values() + [band_of_8(), made.pictures(), example()]:
            self.assertFalse(made == value)
            self.assertTrue(made != value)

    def test_blank_pictures(self):
        made = BandMap(band_of_8(), ONE, {seed: "." for seed in band_of_8().seeds()})
        self.assertEqual([made(row) for row in band_of_8().rows()], ["."] * 5)
        self.assertEqual(made.picture_lot("++"), ".")

    def test_a_great_band(self):
        cells = [("a", 1), ("b", 3), ("c", 3), ("d", 4), ("e", 4)]
        seeds = ["." * at + str(value) + "." * (4 - at) for at, (_, many) in enumerate(cells) for value in range(many)]
        band = Band(cells, seeds)
        made = onto_map(band, ["e", "b"])
        self.assertEqual([made(row) for row in band.rows()], [row[1] + row[4] for row in band.rows()])


class OnTest(unittest.TestCase):
    def test_one_map_behind_the_other(self):
        source = random.Random(1550)
        for band in oracle.random_bands(1551, 30, 4):
            first = onto_map(band, source.sample(band.names(), source.randint(1, band.size)))
            second = onto_map(first.other, source.sample(first.other.names(), source.randint(1, first.other.size)))
            both = first.followed_by(second)
            self.assertEqual([both.band, both.other], [band, second.other])
            self.assertEqual([both(row) for row in band.rows()], [second(first(row)) for row in band.rows()])
            self.assertEqual(both, onto_map(band, second.other.names()))
            third = BandMap(second.other, second.other, {seed: seed for seed in second.other.seeds()})
            self.assertEqual(both.followed_by(map_on=third), both)
            self.assertEqual(first.followed_by(second.followed_by(third)), first.followed_by(second).followed_by(third))

    def test_any_grouping(self):
        found = 0
        bands = [band_of_8(), SQUARE, ONE, SQUARE.onto(["a"])]
        for one, two, three, four in itertools.product(bands, repeat=4):
            steps = []
            for source_band, other in ((one, two), (two, three), (three, four)):
                for images in itertools.islice(itertools.product(other.rows(), repeat=len(source_band.seeds())), 1,
                                               200, 7):
                    pictures = dict(zip(source_band.seeds(), images))
                    if map_break(source_band, other, pictures) is None:
                        steps.append(BandMap(source_band, other, pictures))
                        break
            if len(steps) == 3:
                found += 1
                a, b, c = steps
                self.assertEqual(a.followed_by(b).followed_by(c), a.followed_by(b.followed_by(c)))
        self.assertGreater(found, 50)

    def test_onto_map(self):
        source = random.Random(1560)
        for band in oracle.random_bands(1561, 40, 4):
            names = source.sample(band.names(), source.randint(1, band.size))
            made = onto_map(band, names)
            places = [at for at, name in enumerate(band.names()) if name in names]
            self.assertEqual([made.band, made.other], [band, band.onto(names)])
            self.assertEqual(made, onto_map(band=band, cells=tuple(names)))
            for row in band.rows():
                self.assertEqual(made(row), "".join(row[at] for at in places))
            stream = Stream(band, some_rows(source, band))
            self.assertEqual(made.picture_stream(stream), stream.onto(names))
            book = Book(band, {row: source.randint(1, 5) for row in band.rows()[:3]})
            left = {}
            for row, chance in drawn(book, 3).items():
                left[made(row)] = left.get(made(row), 0) + chance
            self.assertEqual(book.onto(names).after(3), {row: pair(left[row]) for row in sorted(left)})

    def test_wrong_cells(self):
        for value in any_values() + ["ab", {"a": 1}, band_of_8()]:
            if not isinstance(value, (list, tuple)) or not value:
                check_raises(self, BadCells, {"at": -1}, onto_map, band_of_8(), value)
        for value in any_values() + ["c", "A", ["a"], band_of_8()]:
            if value not in ("a", "b"):
                check_raises(self, UnknownCell, {"name": value}, onto_map, band_of_8(), ["b", value, None])
        check_raises(self, UnknownCell, {"name": "b"}, onto_map, band_of_8(), ["b", "a", "b"])

    def test_sorts_of_bands(self):
        """The list of what was used last shows the front, and a front is a row of piles."""
        things = "bac"
        lists, fronts, piles = lists_band(things), fronts_band(things), piles_band(things)
        names = fronts.names()
        first = onto_map(lists, names)
        self.assertEqual(sorted(first.pictures().values()), sorted(fronts.seeds()))
        second = BandMap(fronts, piles, {seed: seed for seed in fronts.seeds()})
        for row in lists.rows():
            used = list_of(things, row)
            front = front_of(things, first(row))
            rest = "".join(thing for thing in things if thing not in used)
            self.assertEqual(front, used + rest if len(rest) == 1 else used)
            self.assertEqual(piles_of(things, second(first(row))),
                             [*used, *([rest] if rest else [])])
            self.assertEqual(piles_row(things, [*used, *([rest] if rest else [])]), second(first(row)))
        self.assertIsNotNone(error_of(BandMap, piles, fronts, {seed: fronts.rows()[0] for seed in piles.seeds()[1:]}))


if __name__ == "__main__":
    unittest.main()
