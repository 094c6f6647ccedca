"""The interface under newesttells/webs.py; promises [13], [39] and [43]."""

import itertools
import random
import unittest

import oracle
from helpers import any_values, check_raises, same
from newesttells.bands import Band
from newesttells.errors import BadHeights, BadRow, BadThings, BadTies, NotInBand, TooMany
from newesttells.families import fewest_seeds
from newesttells.lots import plain_counts, signed_counts
from newesttells.webs import check_web, count_directions, heights_of, ring_of, web_band, web_row

ALL_SIX = ["".join(tie) for tie in itertools.combinations("abcdef", 2)]
WEBS = [("ab", ["ab"]), ("ba", ["ab"]), ("abc", ["ca"]), ("abc", ["ab", "bc"]), ("cab", ["ab", "bc", "ca"]),
        ("abcd", ["ab", "cd"]), ("abcd", ["ab", "bc", "cd", "da"]), ("wxyz", ["wx", "yw", "zw", "yx", "zx"]),
        ("abcd", ["ab", "ac", "ad", "bc", "bd", "cd"]), ("abcde", ["ab", "bc", "ca", "de"]),
        ("abcdef", ["ab", "bc", "cd", "de", "ef"])]


def row_by_words(places, ties, heights):
    known = dict(zip(places, heights))
    return "".join("." if known[tie[0]] == known[tie[1]] else "0" if known[tie[0]] < known[tie[1]] else "1"
                   for tie in ties)


def rows_by_words(places, ties):
    heights = itertools.product(range(len(places)), repeat=len(places))
    return sorted({row_by_words(places, ties, some) for some in heights})


def has_ring(places, ties, row):
    """Whether an arrow leads from some place back to it in some steps."""
    steps = {(tie if sign == "0" else tie[::-1]) for tie, sign in zip(ties, row) if sign != "."}
    reach = set(steps)
    for _ in places:
        reach |= {x[0] + y[1] for x in reach for y in steps if x[1] == y[0]}
    return any(step[0] == step[1] for step in reach)


def directions_by_words(places, ties):
    return sum(not has_ring(places, ties, row) for row in itertools.product("01", repeat=len(ties)))


def random_web(source, most_ties=12):
    letters = source.sample("qwertzuiop", source.randint(2, 6))
    pairs = [source.sample(pair, 2) for pair in itertools.combinations(letters, 2)]
    many = source.randint(1, min(most_ties, len(pairs)))
    return "".join(letters), ["".join(pair) for pair in source.sample(pairs, many)]


def wrong_webs():
    """Triples of wrong places or ties and of the errors with their values."""
    for value in any_values() + ["abcdefg", "a", "aa", "aba", "abB", "ab1", "a b", ["a", "b"], ("a", "b"), b"ab"]:
        if value != "ab":
            yield value, ["ab"], (BadThings, {})
            yield value, None, (BadThings, {})
    for value in any_values() + [{"ab": 1}, "ab", ALL_SIX[:13], [None] * 13, web_band("ab", ["ab"])]:
        if not isinstance(value, (list, tuple)) or not 1 <= len(value) <= 12:
            yield "abcdef", value, (BadTies, {"at": -1})
    for value in any_values() + ["aa", "abc", "ag", "ga", "Ab", "a ", "ab\n", ["ab"], ("a", "b"), ["a", "b"], b"ab"]:
        yield "abc", [value], (BadTies, {"at": 0})
        yield "abc", ("ab", "cb", value, None), (BadTies, {"at": 2})
    for tie in ("ab", "ba"):
        yield "abc", ["ab", "bc", tie], (BadTies, {"at": 2})
        yield "abc", [tie, "ab", "zz"], (BadTies, {"at": 1})


class CheckTest(unittest.TestCase):
    def test_webs(self):
        for places, ties in WEBS + [("abcdef", ALL_SIX[:12]), ("abcdef", tuple(ALL_SIX[3:]))]:
            self.assertIsNone(check_web(places, ties))
        self.assertIsNone(check_web(places="ba", ties=("ab",)))

    def test_wrong_webs(self):
        for places, ties, (kind, values) in wrong_webs():
            check_raises(self, kind, values, check_web, places, ties)
            check_raises(self, kind, values, web_band, places, ties)
            check_raises(self, kind, values, count_directions, places, ties)
            for call in (web_row, heights_of, ring_of):
                check_raises(self, kind, values, call, places, ties, None)

    def test_ties_stay(self):
        places, ties = "abcd", ["ab", "bc", "cd", "da"]
        for call in (check_web, web_band, count_directions):
            call(places, ties)
        heights_of(places, ties, "0.11")
        ring_of(places, ties, "0000")
        self.assertEqual(ties, ["ab", "bc", "cd", "da"])


class BandTest(unittest.TestCase):
    def test_rows_and_seeds(self):
        for places, ties in WEBS:
            band = web_band(places, ties)
            self.assertEqual(band.rows(), rows_by_words(places, ties))
            self.assertEqual(band.cells(), [(tie, 2) for tie in ties])
            self.assertEqual(band.seeds(), fewest_seeds(band))
            if len(band) < 40:
                self.assertEqual(band.seeds(), oracle.seeds_of(band.rows()))

    def test_random_webs(self):
        source = random.Random(1200)
        for _ in range(30):
            places, ties = random_web(source, 6)
            rows = rows_by_words(places, ties)
            if len(rows) <= 200:
                self.assertEqual(web_band(places=places, ties=tuple(ties)).rows(), rows)

    def test_one_tie(self):
        self.assertEqual(web_band("abcdef", ["ca"]), Band([("ca", 2)], ["0", "1"]))

    def test_the_most_rows_and_seeds(self):
        ring = ["ab", "bc", "cd", "de", "ef", "fa"]
        self.assertEqual([len(web_band("abcdef", ring)), len(web_band("abcdef", ring).seeds())], [603, 30])
        full = ["".join(tie) for tie in itertools.combinations("abcde", 2)]
        self.assertEqual([len(web_band("abcde", full)), len(web_band("abcde", full).seeds())], [541, 30])

    def test_too_many_rows(self):
        for ties in (ALL_SIX[:12], ["ab", "bc", "cd", "de", "ef", "fa", "ad"]):
            check_raises(self, TooMany, {"most": 800}, web_band, "abcdef", ties)
            self.assertGreater(len(rows_by_words("abcdef", ties)), 800)
            self.assertEqual(count_directions("abcdef", ties), directions_by_words("abcdef", ties))

    def test_too_many_seeds(self):
        """A web that needs more than 30 seeds has more than 800 rows, too, and these are counted first."""
        for ties, seeds in ((["ab", "ac", "ad", "be", "ce", "df", "ef"], 34),
                            (["ab", "ac", "ad", "ae", "af", "bc", "bd", "be", "cd", "ce", "de"], 32),
                            (["ab", "ac", "ad", "be", "bf", "ce", "cf", "de", "df"], 48)):
            self.assertEqual(len(least_lots("abcdef", ties)) * 2, seeds)
            self.assertGreater(len(rows_by_words("abcdef", ties)), 800)
            check_raises(self, TooMany, {"most": 800}, web_band, "abcdef", ties)
            self.assertEqual(count_directions("abcdef", ties), directions_by_words("abcdef", ties))
        self.assertEqual(len(least_lots("abcde", ["ab", "bc", "cd", "de", "ea"])) * 2,
                         len(web_band("abcde", ["ab", "bc", "cd", "de", "ea"]).seeds()))

    def test_counts(self):
        for places, ties in WEBS:
            band = web_band(places, ties)
            signed = signed_counts(band)
            self.assertEqual(plain_counts(band), {lot: abs(count) for lot, count in signed.items()})

    def test_full_rows_are_those_without_rings(self):
        for places, ties in WEBS:
            band = web_band(places, ties)
            for row in map("".join, itertools.product("01", repeat=len(ties))):
                self.assertEqual(row in band, ring_of(places, ties, row) is None)


class RowTest(unittest.TestCase):
    def test_web_row(self):
        source = random.Random(1210)
        for _ in range(100):
            places, ties = random_web(source)
            heights = [source.randint(-3, 3) for _ in places]
            self.assertTrue(same(web_row(places, ties, heights), row_by_words(places, ties, heights)))
        self.assertEqual(web_row(places="ab", ties=["ba"], heights=(1, 2)), "1")

    def test_equal_low_and_great_heights(self):
        great = 10 ** 31 - 1
        ties = ("ab", "cb", "ca")
        self.assertEqual(web_row("abc", ties, [great, great, great]), "...")
        self.assertEqual(web_row("abc", ties, [-great, great, great - 1]), "001")
        self.assertEqual(web_row("abc", ties, [-5, -6, -5]), "11.")

    def test_wrong_heights(self):
        for value in any_values() + [[1, 2], [1, 2, 3, 4], [1, 2, True], [False, 2, 3], [1, "2", 3], [1, None, 3],
                                     [1, (2, 1), 3], "123", {"a": 1, "b": 2, "c": 3}, {0: 1, 1: 1, 2: 1}, [[1, 2, 3]],
                                     web_band("ab", ["ab"])]:
            check_raises(self, BadHeights, {}, web_row, "abc", ["ab"], value)

    def test_heights_of(self):
        source = random.Random(1211)
        for _ in range(60):
            places, ties = random_web(source)
            for _ in range(10):
                row = row_by_words(places, ties, [source.randint(0, 4) for _ in places])
                heights = heights_of(places=places, ties=ties, row=row)
                self.assertEqual([type(heights), len(heights)], [list, len(places)])
                self.assertTrue(all(type(height) is int for height in heights))
                self.assertEqual(row_by_words(places, ties, heights), row)
                self.assertEqual(heights, heights_of(places, tuple(ties), row))

    def test_every_string_of_signs(self):
        for places, ties in WEBS:
            if len(ties) < 6:
                rows = rows_by_words(places, ties)
                for row in oracle.all_rows([(tie, 2) for tie in ties]):
                    if row in rows:
                        self.assertEqual(web_row(places, ties, heights_of(places, ties, row)), row)
                    else:
                        check_raises(self, NotInBand, {"row": row}, heights_of, places, ties, row)

    def test_rows_that_no_heights_give(self):
        ties = ["ab", "bc", "ca"]
        for value in any_values() + ["000", "111", "..0", "0.0", "..", "....", "..2", "..+", ["..."], {"...": 1},
                                     web_band("ab", ["ab"])]:
            check_raises(self, NotInBand, {"row": value}, heights_of, "abc", ties, value)
        self.assertEqual(web_row("abc", ties, heights_of("abc", ties, "0.1")), "0.1")
        # The band of this web has too many rows.
        self.assertEqual(len(heights_of("abcdef", ALL_SIX[:12], "." * 12)), 6)
        check_raises(self, NotInBand, {"row": "0" + "." * 11}, heights_of, "abcdef", ALL_SIX[:12], "0" + "." * 11)

    def test_longest_ways(self):
        ties = ["fe", "ed", "dc", "cb", "ba"]
        for row in ("00000", "11111", "01010", "1...0"):
            self.assertEqual(web_row("abcdef", ties, heights_of("abcdef", ties, row)), row)


class RingTest(unittest.TestCase):
    def check_ring(self, places, ties, row, ring):
        arrows = {tie if sign == "0" else tie[::-1] for tie, sign in zip(ties, row) if sign != "."}
        self.assertIs(type(ring), list)
        self.assertTrue(len(ring) >= 3 and len(set(ring)) == len(ring) and set(ring) <= set(places))
        self.assertTrue(all(one + other in arrows for one, other in zip(ring, ring[1:] + ring[:1])))

    def test_rings(self):
        source = random.Random(1220)
        found = 0
        for _ in range(200):
            places, ties = random_web(source)
            row = "".join(source.choice("0011.") for _ in ties)
            ring = ring_of(places=places, ties=ties, row=row)
            self.assertEqual(ring is not None, has_ring(places, ties, row))
            if ring is not None:
                found += 1
                self.check_ring(places, ties, row, ring)
                self.assertEqual(ring_of(places, ties, row), ring)
        self.assertGreater(found, 20)

    def test_long_and_short_rings(self):
        ring = ["ab", "bc", "cd", "de", "ef", "fa"]
        self.check_ring("abcdef", ring, "000000", ring_of("abcdef", ring, "000000"))
        self.check_ring("abcdef", ring, "111111", ring_of("abcdef", ring, "111111"))
        self.assertEqual([ring_of("abcdef", ring, row) for row in ("000001", "00.000", "......")], [None] * 3)
        ties = ["ad", "ab", "bc", "ca"]
        for row in ("0000", "1000", ".000", "0111"):
            self.assertEqual(sorted(ring_of("abcd", ties, row)), ["a", "b", "c"])
        # A row that no heights give need not have a ring: dots draw no arrows.
        self.assertIsNone(ring_of("abc", ["ab", "bc", "ca"], "00."))

    def test_wrong_rows(self):
        for value in any_values() + ["00", "0000", "002", "00+", ["000"], ("0", "0", "0"), {"000": 1},
                                     web_band("ab", ["ab"])]:
            check_raises(self, BadRow, {"row": value}, ring_of, "abc", ["ab", "bc", "ca"], value)


class CountTest(unittest.TestCase):
    def test_the_number_of_full_rows(self):
        for places, ties in WEBS:
            self.assertTrue(same(count_directions(places, ties), len(web_band(places, ties).full_rows())))
        source = random.Random(1230)
        for _ in range(20):
            places, ties = random_web(source, 9)
            self.assertEqual(count_directions(places=places, ties=tuple(ties)), directions_by_words(places, ties))

    def test_edges(self):
        self.assertTrue(same(count_directions("ab", ["ba"]), 2))
        self.assertEqual(count_directions("abcdef", ALL_SIX[:12]), directions_by_words("abcdef", ALL_SIX[:12]))
        self.assertEqual(count_directions("abcde", ["".join(tie) for tie in itertools.combinations("abcde", 2)]), 120)
        self.assertEqual(count_directions("abcdef", ["ab", "bc", "cd", "de", "ef"]), 32)
        self.assertEqual(count_directions("abcdef", ["ab", "bc", "cd", "de", "ef", "fa"]), 62)

    def test_the_two_webs_of_a_tie(self):
        """The web without a tie, and the web in which both its places are one."""
        source = random.Random(1231)
        for _ in range(60):
            places, ties = random_web(source, 8)
            one, other = source.choice(ties)
            left = [tie for tie in ties if tie not in (one + other, other + one)]
            drawn = {"".join(sorted(tie.replace(other, one))) for tie in left}
            expected = sum(count_directions(places, sorted(some)) if some else 1 for some in (left, drawn))
            self.assertEqual(count_directions(places, ties), expected)


def least_lots(places, ties):
    """The lots of the rows of a web that have no other one but nothing within them."""
    lots = {oracle.lot_of(row) for row in rows_by_words(places, ties)} - {"." * len(ties)}
    return [lot for lot in lots if not any(other != lot and oracle.inside(other, lot) for other in lots)]


if __name__ == "__main__":
    unittest.main()
