"""The interface under newesttells/lines.py; promises [2], [13], [39] and [44]."""

import itertools
import random
import unittest
from fractions import Fraction

import oracle
from helpers import any_values, check_raises, same
from newesttells.errors import BadLines, BadPoint, NotInBand
from newesttells.families import fewest_seeds
from newesttells.lines import bounded_lands, check_lines, line_row, lines_band, parts_of_plane, point_of
from newesttells.lots import plain_counts, signed_counts
from newesttells.ratios import ratio
from test_books import pair
from test_powers import fraction

FAR = 10 ** 6
BOX = [(1, 0, FAR), (1, 0, -FAR), (0, 1, FAR), (0, 1, -FAR)]
TRIANGLE = [(1, 0, 0), (0, 1, 0), (1, 1, 1)]
PLANES = [
    [(1, 0, 0)], [(0, 5, -3)], [(99, -99, 99)],
    [(1, 0, 0), (0, 1, 0)], [(1, 2, 3), (1, 2, 4)], [(2, 4, 3), (-1, -2, 99)],
    TRIANGLE, [(1, 1, 0), (1, -1, 0), (2, 1, 0)], [(1, 0, 0), (1, 0, 1), (0, 1, 0)],
    [(3, 1, 0), (3, 1, 5), (-3, -1, 8)],
    [(1, 0, 0), (1, 0, 2), (0, 1, 0), (0, 1, 2)], [(1, 0, 0), (1, 0, 2), (0, 1, 0), (1, 1, 2)],
    [(1, 0, 0), (0, 1, 0), (1, 1, 0), (1, -1, 0), (1, 2, 0)], [(1, 0, 0), (0, 1, 0), (1, 1, 0), (1, -1, 0), (1, 2, 7)],
    [(1, 0, at) for at in (-99, -1, 0, 3, 99)], [(1, 0, 0), (1, 0, 1), (1, 0, 2), (1, 0, 3), (0, 1, 0)],
    [(1, 0, 0), (0, 1, 0), (1, 1, 4), (1, -1, 7), (3, 1, -5)],
    [(99, 98, 97), (98, 97, 96), (97, 96, -99), (1, -99, 99), (-99, 99, 1)],
    [(1, 0, 0), (0, 1, 0), (1, 1, 2), (1, -1, 0), (2, 1, 3)],
]


def crossing(one, other):
    across = one[0] * other[1] - other[0] * one[1]
    if across == 0:
        return None
    return (Fraction(one[2] * other[1] - other[2] * one[1], across),
            Fraction(one[0] * other[2] - other[0] * one[2], across))


def row_by_words(lines, point):
    values = [a * point[0] + b * point[1] - c for a, b, c in lines]
    return "".join("." if value == 0 else "0" if value < 0 else "1" for value in values)


def corners(lines):
    """All points in a great box at which two of the lines and the sides of the box meet."""
    points = {crossing(*two) for two in itertools.combinations(lines + BOX, 2)} - {None}
    return sorted(point for point in points if max(map(abs, point)) <= FAR)


def rows_by_words(lines):
    """The rows of all points: each part of the plane holds the middle of one, two or three corners of what it has in
    the box."""
    points = corners(lines)
    rows = {row_by_words(lines, point) for point in points}
    for many in (2, 3):
        for some in itertools.combinations(points, many):
            middle = (sum(x for x, _ in some) / many, sum(y for _, y in some) / many)
            rows.add(row_by_words(lines, middle))
    return sorted(rows)


def bounded_by_words(lines, rows):
    """The rows of the lands that do not come to the side of the box."""
    ends = [row_by_words(lines, point) for point in corners(lines) if max(map(abs, point)) == FAR]
    return [row for row in rows if "." not in row
            and not any(all(sign in (".", own) for sign, own in zip(end, row)) for end in ends)]


def random_lines(source, most):
    lines = []
    while len(lines) < most:
        line = tuple(source.randint(-4, 4) for _ in range(3))
        if line[:2] != (0, 0) and not any(proportional(line, other) for other in lines):
            lines.append(line)
    return lines


def proportional(one, other):
    return all(one[i] * other[k] == one[k] * other[i] for i, k in ((0, 1), (0, 2), (1, 2)))


def some_planes():
    source = random.Random(1300)
    return PLANES + [random_lines(source, source.randint(1, 5)) for _ in range(12)]


def wrong_lines():
    """Pairs of wrong lines and of the index in the error."""
    for value in any_values() + [{(1, 0, 0): 1}, "abc", [], (), lines_band(TRIANGLE), (1, 0, 0)]:
        if not isinstance(value, (list, tuple)) or not 1 <= len(value) <= 5:
            yield value, -1
    yield [(1, 0, at) for at in range(6)], -1
    yield [None] * 6, -1
    yield (1, 0, 0), 0
    for value in any_values() + [(0, 0, 1), (0, 0, 0), (1, 2), (1, 2, 3, 4), [1, 2, 3], (100, 1, 1), (1, -100, 1),
                                 (1, 1, 100), (1, 1, -100), (True, 0, 0), (1, False, 0), (1, 0, True), (1, "0", 0),
                                 (1, None, 0), (1, 0, (0, 1)), ("1", "0", "0"), (10 ** 30, 1, 1), "100"]:
        yield [value], 0
        yield ((1, 0, 0), (0, 1, 0), value, None), 2
    for line in ((1, 2, 3), (-1, -2, -3), (33, 66, 99), (-2, -4, -6)):
        yield [(1, 2, 3), line], 1
        yield [(0, 1, 0), (1, 2, 3), (3, 2, 1), line, (0, 0, 0)], 3
    yield [(0, 3, 0), (0, -99, 0)], 1
    yield [(0, 3, 0), (5, 0, 0), (-1, 0, 0)], 2


def wrong_points():
    return any_values() + [((0, 1),), ((0, 1), (0, 1), (0, 1)), [(0, 1), (0, 1)], ((0, 1), [0, 1]), ((2, 4), (0, 1)),
                           ((0, 1), (0, 2)), ((0, 1), (1, -1)), ((1, 0), (0, 1)), ((True, 1), (0, 1)),
                           ((0, 1), (0, True)), (0, 0), ((0, 1), 0), ((0, 1), None), ("01", "01"),
                           ((0, 1), (0, 1, 1)), {(0, 1): (0, 1)}, lines_band(TRIANGLE)]


class CheckTest(unittest.TestCase):
    def test_lines(self):
        for lines in some_planes():
            self.assertIsNone(check_lines(lines))
            self.assertIsNone(check_lines(lines=tuple(lines)))

    def test_wrong_lines(self):
        for lines, at in wrong_lines():
            for call in (check_lines, lines_band, parts_of_plane, bounded_lands):
                check_raises(self, BadLines, {"at": at}, call, lines)
            for call in (line_row, point_of):
                check_raises(self, BadLines, {"at": at}, call, lines, None)

    def test_lines_stay(self):
        lines = list(TRIANGLE)
        for call in (check_lines, lines_band, parts_of_plane, bounded_lands):
            call(lines)
        line_row(lines, ((1, 1), (1, 1)))
        point_of(lines, "000")
        self.assertEqual(lines, TRIANGLE)


class BandTest(unittest.TestCase):
    def test_rows_and_seeds(self):
        for lines in some_planes():
            rows = sorted({"." * len(lines), *rows_by_words(lines)})
            band = lines_band(lines)
            self.assertEqual(band.rows(), rows)
            self.assertEqual(band.cells(), [(name, 2) for name in "abcde"[:len(lines)]])
            self.assertEqual(band.seeds(), fewest_seeds(band))
            if len(rows) < 30:
                self.assertEqual(band.seeds(), oracle.seeds_of(rows))

    def test_the_same_lines_by_other_numbers(self):
        other = [(-7, 0, 0), (0, -2, 0), (-9, -9, -9)]
        self.assertEqual(lines_band(lines=TRIANGLE).cells(), lines_band(other).cells())
        turned = str.maketrans("01", "10")
        self.assertEqual(sorted(row.translate(turned) for row in lines_band(TRIANGLE).rows()), lines_band(other).rows())
        self.assertEqual(lines_band([(33, 66, 99)]), lines_band([(1, 2, 3)]))

    def test_a_short_step_from_one_point_towards_another(self):
        source = random.Random(1310)
        for lines in some_planes():
            points = [tuple(map(fraction, point_of(lines, row))) for row in rows_by_words(lines)]
            for _ in range(60):
                x, y = source.choice(points), source.choice(points)
                expected = oracle.over(row_by_words(lines, x), row_by_words(lines, y))
                near = [a + (b - a) / 10 ** 12 for a, b in zip(x, y)]
                self.assertEqual(row_by_words(lines, near), expected)

    def test_counts(self):
        for lines in some_planes():
            band = lines_band(lines)
            nothing = "." * len(lines)
            plain, signed = plain_counts(band), signed_counts(band)
            common = nothing in rows_by_words(lines)
            one_way = all(crossing(*two) is None for two in itertools.combinations(lines, 2))
            for lot in band.lots():
                if lot != nothing or common:
                    self.assertEqual(plain[lot], abs(signed[lot]))
            if not common:
                self.assertEqual(plain[nothing], 0)
                if not one_way:
                    self.assertEqual(signed[nothing], -len(bounded_lands(lines)))


class PartsTest(unittest.TestCase):
    def test_the_example(self):
        self.assertTrue(same(parts_of_plane(TRIANGLE), (3, 9, 7, 1)))
        self.assertTrue(same(bounded_lands(TRIANGLE), ["110"]))

    def test_against_the_words(self):
        for lines in some_planes():
            rows = rows_by_words(lines)
            bounded = bounded_by_words(lines, rows)
            spots = {crossing(*two) for two in itertools.combinations(lines, 2)} - {None}
            lands = [row for row in rows if "." not in row]
            stretches = [row for row in rows if row.count(".") == 1]
            found = parts_of_plane(lines=lines)
            self.assertTrue(same(found, (len(spots), len(stretches), len(lands), len(bounded))))
            self.assertEqual(found[0] - found[1] + found[2], 1)
            self.assertTrue(same(bounded_lands(lines=lines), bounded))

    def test_known_planes(self):
        self.assertEqual(parts_of_plane([(0, 5, -3)]), (0, 1, 2, 0))
        self.assertEqual(parts_of_plane([(1, 0, at) for at in range(5)]), (0, 5, 6, 0))
        self.assertEqual(parts_of_plane([(1, at, 0) for at in range(5)]), (1, 10, 10, 0))
        self.assertEqual(parts_of_plane([(1, 0, 0), (0, 1, 0), (1, 1, 4), (1, -1, 7), (3, 1, -5)]), (10, 25, 16, 6))
        self.assertEqual(parts_of_plane([(1, 0, 0), (1, 0, 2), (0, 1, 0), (0, 1, 2)]), (4, 12, 9, 1))
        self.assertEqual(bounded_lands([(1, 0, 0), (1, 0, 2), (0, 1, 0), (0, 1, 2)]), ["1010"])

    def test_lists_are_new(self):
        bounded_lands(TRIANGLE).clear()
        self.assertEqual(bounded_lands(TRIANGLE), ["110"])


class RowTest(unittest.TestCase):
    def test_line_row(self):
        source = random.Random(1320)
        for lines in some_planes():
            for x, y in corners(lines)[:8] + [(source.randint(-9, 9), Fraction(source.randint(-9, 9), 7))]:
                point = (pair(Fraction(x)), pair(Fraction(y)))
                self.assertTrue(same(line_row(lines, point), row_by_words(lines, (x, y))))
        great = 10 ** 31 - 1
        self.assertEqual(line_row(lines=TRIANGLE, point=((great, great - 1), (-1, great))), "101")
        self.assertEqual(line_row([(1, 0, 1)], (ratio(great, great - 1), (0, 1))), "1")
        self.assertEqual([line_row(TRIANGLE, point) for point in (((0, 1), (0, 1)), ((0, 1), (1, 2)), ((1, 3), (1, 3)),
                                                                  ((1, 2), (1, 2)), ((1, 1), (0, 1)))],
                         ["..0", ".10", "110", "11.", "1.."])

    def test_wrong_points(self):
        for value in wrong_points():
            check_raises(self, BadPoint, {}, line_row, TRIANGLE, value)

    def test_point_of(self):
        for lines in some_planes():
            for row in rows_by_words(lines):
                point = point_of(lines=lines, row=row)
                self.assertEqual([type(point), len(point)], [tuple, 2])
                x, y = map(fraction, point)
                self.assertTrue(same(point, (pair(x), pair(y))))
                self.assertEqual(row_by_words(lines, (x, y)), row)
                self.assertEqual(line_row(lines, point), row)
                self.assertEqual(point_of(tuple(lines), row), point)

    def test_rows_of_no_point(self):
        for value in any_values() + ["000.", "00", "0 0", "..+", "2..", ["110"], ("1", "1", "0"), {"110": 1},
                                     lines_band(TRIANGLE), "..."]:
            check_raises(self, NotInBand, {"row": value}, point_of, TRIANGLE, value)
        for lines in PLANES:
            rows = rows_by_words(lines)
            for row in oracle.all_rows([(name, 2) for name in "abcde"[:len(lines)]]):
                if row not in rows:
                    check_raises(self, NotInBand, {"row": row}, point_of, lines, row)

    def test_the_blank_row(self):
        """It is a row of the band, but the row of a point only if all lines go through it."""
        for lines in ([(1, 0, 0), (1, 0, 1)], TRIANGLE):
            blank = "." * len(lines)
            self.assertIn(blank, lines_band(lines))
            check_raises(self, NotInBand, {"row": blank}, point_of, lines, blank)
        self.assertEqual(point_of([(1, 0, 3), (0, 2, 1)], ".."), ((3, 1), (1, 2)))
        self.assertEqual(line_row([(3, 5, 7)], point_of([(3, 5, 7)], ".")), ".")


if __name__ == "__main__":
    unittest.main()
