"""The interface under newesttells/streams.py; promises [2], [14] to [16], [18] (its block), [19] and [45]."""

import random
import unittest

import oracle
from helpers import any_values, check_raises, same
from newesttells.bands import Band
from newesttells.blocks import Block
from newesttells.errors import BadCells, BadMoments, BadRow, NoMoment, NotInBand, TooMany, UnknownCell
from newesttells.streams import Stream

CELLS = [("a", 2), ("b", 2), ("c", 2)]
ROWS = ["01.", ".10", "1..", "..1"]


def band_of_14():
    return Band(CELLS, ROWS)


def example():
    return Stream(band_of_14(), ROWS)


def standing_of(many, rows):
    standing = "." * many
    for row in rows:
        standing = oracle.over(row, standing)
    return standing


def tellers_of(rows):
    return [moment for moment, _ in oracle.tellers(rows)]


def end_of(rows, moment):
    """The end of a moment by the words of [15]."""
    told = [k for k, sign in enumerate(rows[moment - 1]) if sign != "."]
    for end in range(moment, len(rows) + 1):
        if all(any(row[k] != "." for row in rows[moment:end]) for k in told):
            return end
    return None


def some_rows(source, band, most=9):
    return [source.choice(band.rows()) for _ in range(source.randint(0, most))]


def some_streams(seed, count, most=9):
    source = random.Random(seed)
    return [Stream(band, some_rows(source, band, most)) for band in oracle.random_bands(seed + 1, count)]


def wrong_moments(least, most):
    """Values that are no number from least to most."""
    values = any_values() + [least - 1, most + 1, 10 ** 30, -1, example(), band_of_14(), [1], (1,), "1"]
    return [value for value in values if type(value) is not int or not least <= value <= most]


def wrong_rows():
    return [value for value in any_values() + [band_of_14(), example(), "02.", "0..1", "01", ["01."]]]


class StateCheck:
    """All answers of a stream, against the words of the document and against a stream that is made anew."""

    def check_state(self, stream, rows):
        many = stream.band.size
        self.assertTrue(same(stream.rows(), rows), (stream.rows(), rows))
        self.assertEqual(len(stream), len(rows))
        self.assertEqual(repr(stream), f"Stream({len(rows)} moments)")
        self.assertEqual(stream.standing, standing_of(many, rows))
        self.assertTrue(same(stream.tellers(), tellers_of(rows)))
        self.assertTrue(same(stream.spare_count, len(rows) - len(tellers_of(rows))))
        self.assertTrue(same(stream.ends(), [end_of(rows, moment + 1) for moment in range(len(rows))]))
        self.assertEqual([stream[at + 1] for at in range(len(rows))], rows)
        self.assertEqual(stream.block(), Block(stream.band, rows))
        self.assertEqual(stream, Stream(stream.band, rows))
        check_raises(self, NoMoment, {"moment": len(rows) + 1}, stream.end_of, len(rows) + 1)


class ConstructorTest(unittest.TestCase, StateCheck):
    def test_the_example_of_15(self):
        stream = example()
        self.assertEqual([stream.standing, stream.tellers(), stream.ends(), stream.tellers(start=1, end=2)],
                         ["111", [4, 3, 2], [3, None, None, None], [2, 1]])
        self.assertEqual(stream.spare_count, 1)
        self.assertEqual(stream.band, band_of_14())
        self.check_state(stream, ROWS)

    def test_no_moments(self):
        for stream in (Stream(band_of_14()), Stream(band_of_14(), []), Stream(band_of_14(), ())):
            self.check_state(stream, [])
            self.assertEqual([stream.standing, stream.tellers(), stream.ends(), stream.spare_count], ["...", [], [], 0])
            self.assertIs(bool(stream), True)

    def test_by_name_and_from_a_tuple(self):
        stream = Stream(band=band_of_14(), rows=tuple(ROWS))
        self.assertEqual(stream, example())
        self.assertIs(type(stream.rows()), list)

    def test_against_the_words(self):
        for stream in some_streams(100, 80):
            self.check_state(stream, stream.rows())

    def test_400_and_401_moments(self):
        source = random.Random(102)
        rows = [source.choice(band_of_14().rows()) for _ in range(400)]
        stream = Stream(band_of_14(), rows)
        self.assertEqual(len(stream), 400)
        self.assertEqual(stream.standing, standing_of(3, rows))
        self.assertEqual(stream.ends()[:60], [end_of(rows, moment + 1) for moment in range(60)])
        check_raises(self, TooMany, {"most": 400}, Stream, band_of_14(), [*rows, "..."])
        check_raises(self, TooMany, {"most": 400}, Stream, band_of_14(), [None] * 401)

    def test_the_first_wrong_row(self):
        band = band_of_14()
        for value in wrong_rows():
            check_raises(self, BadRow, {"row": value}, Stream, band, [value])
            check_raises(self, BadRow, {"row": value}, Stream, band, [*ROWS, value, "0..", None])
        check_raises(self, NotInBand, {"row": "0.."}, Stream, band, ["01.", "0..", None])

    def test_lists_are_copied(self):
        rows = list(ROWS)
        stream = Stream(band_of_14(), rows)
        rows.clear()
        stream.rows().clear()
        stream.tellers().clear()
        stream.ends().clear()
        self.check_state(stream, ROWS)

    def test_blank_and_repeated_rows(self):
        stream = Stream(band_of_14(), ["...", "01.", "01.", "...", "01."])
        self.assertEqual([stream.standing, stream.tellers(), stream.spare_count], ["01.", [5], 4])
        self.assertEqual(stream.ends(), [1, 3, 5, 4, None])


class ItemTest(unittest.TestCase, StateCheck):
    def test_items(self):
        stream = example()
        self.assertEqual([stream[1], stream[4]], ["01.", "..1"])
        for value in wrong_moments(1, 4):
            check_raises(self, NoMoment, {"moment": value}, stream.__getitem__, value)
            check_raises(self, NoMoment, {"moment": value}, lambda: Stream(band_of_14())[value])

    def test_set(self):
        stream = example()
        stream[1] = "..."
        self.check_state(stream, ["...", *ROWS[1:]])
        stream[4] = "01."
        self.check_state(stream, ["...", ".10", "1..", "01."])
        self.assertIsNone(stream.change(2, "..1"))
        stream.change(row="1..", moment=1)
        self.check_state(stream, ["1..", "..1", "1..", "01."])

    def test_wrong_sets(self):
        stream = example()
        for change in (stream.change, stream.__setitem__):
            for value in wrong_moments(1, 4):
                check_raises(self, NoMoment, {"moment": value}, change, value, "01.")
                check_raises(self, NoMoment, {"moment": value}, change, value, None)
            for value in wrong_rows():
                check_raises(self, BadRow, {"row": value}, change, 1, value)
            check_raises(self, NotInBand, {"row": "0.."}, change, 1, "0..")
        self.check_state(stream, ROWS)

    def test_not_iterated_over(self):
        for stream in (example(), Stream(band_of_14())):
            with self.assertRaises(TypeError):
                iter(stream)
            with self.assertRaises(TypeError):
                list(stream)
            with self.assertRaises(TypeError):
                for _ in stream:
                    self.fail()

    def test_properties_are_only_read(self):
        stream = example()
        for name in ("standing", "spare_count"):
            with self.assertRaises(AttributeError):
                setattr(stream, name, 1)


class TellTest(unittest.TestCase, StateCheck):
    def test_tell(self):
        stream = Stream(band_of_14())
        self.assertTrue(same(stream.tell("01."), 1))
        self.assertTrue(same(stream.tell(".10", "1.."), 3))
        self.assertTrue(same(stream.tell(), 3))
        self.assertTrue(same(stream.tell("..1"), 4))
        self.check_state(stream, ROWS)

    def test_wrong_rows(self):
        stream = example()
        for value in wrong_rows():
            check_raises(self, BadRow, {"row": value}, stream.tell, value)
            check_raises(self, BadRow, {"row": value}, stream.tell, "01.", value, "0..", None)
        check_raises(self, NotInBand, {"row": "0.."}, stream.tell, "01.", "0..", None)
        self.check_state(stream, ROWS)

    def test_401_moments(self):
        stream = Stream(band_of_14(), ["01."] * 398)
        check_raises(self, TooMany, {"most": 400}, stream.tell, "01.", "1..", "01.")
        check_raises(self, TooMany, {"most": 400}, stream.tell, None, "0..", "01.")
        self.assertEqual(len(stream), 398)
        self.assertEqual(stream.tell("01.", "1.."), 400)
        check_raises(self, TooMany, {"most": 400}, stream.tell, None)
        self.assertEqual(stream.tell(), 400)


class PutAndTakeTest(unittest.TestCase, StateCheck):
    def test_put(self):
        for behind in range(5):
            stream = example()
            self.assertIsNone(stream.put("1..", behind=behind))
            self.check_state(stream, [*ROWS[:behind], "1..", *ROWS[behind:]])
            self.assertEqual(stream.take(behind + 1), "1..")
            self.check_state(stream, ROWS)
        stream = Stream(band_of_14())
        stream.put(row="...", behind=0)
        self.check_state(stream, ["..."])

    def test_put_takes_behind_by_name_alone(self):
        with self.assertRaises(TypeError):
            example().put("01.", 0)
        with self.assertRaises(TypeError):
            example().put("01.")

    def test_wrong_puts(self):
        stream = example()
        for value in wrong_rows():
            check_raises(self, BadRow, {"row": value}, stream.put, value, behind=0)
            check_raises(self, BadRow, {"row": value}, stream.put, value, behind=None)
        check_raises(self, NotInBand, {"row": "0.."}, stream.put, "0..", behind=True)
        for value in wrong_moments(0, 4):
            check_raises(self, NoMoment, {"moment": value}, stream.put, "01.", behind=value)
        self.check_state(stream, ROWS)

    def test_put_into_400(self):
        stream = Stream(band_of_14(), ["01."] * 400)
        check_raises(self, NotInBand, {"row": "0.."}, stream.put, "0..", behind=401)
        check_raises(self, NoMoment, {"moment": 401}, stream.put, "01.", behind=401)
        check_raises(self, TooMany, {"most": 400}, stream.put, "01.", behind=400)
        self.assertEqual(stream.take(400), "01.")
        stream.put("1..", behind=399)
        self.assertEqual(stream.standing, "11.")

    def test_take(self):
        for moment in range(1, 5):
            stream = example()
            self.assertEqual(stream.take(moment), ROWS[moment - 1])
            self.check_state(stream, ROWS[:moment - 1] + ROWS[moment:])
        stream = Stream(band_of_14(), ["..."])
        self.assertEqual(stream.take(moment=1), "...")
        self.check_state(stream, [])
        check_raises(self, NoMoment, {"moment": 1}, stream.take, 1)

    def test_wrong_takes(self):
        stream = example()
        for value in wrong_moments(1, 4):
            check_raises(self, NoMoment, {"moment": value}, stream.take, value)
        self.check_state(stream, ROWS)

    def test_exchange(self):
        for moment in range(1, 4):
            stream = example()
            self.assertIsNone(stream.exchange(moment))
            rows = list(ROWS)
            rows[moment - 1:moment + 1] = [rows[moment], rows[moment - 1]]
            self.check_state(stream, rows)
            stream.exchange(moment=moment)
            self.check_state(stream, ROWS)

    def test_wrong_exchanges(self):
        for count in (0, 1, 2, 4):
            stream = Stream(band_of_14(), ROWS[:count])
            for value in wrong_moments(1, count - 1):
                check_raises(self, NoMoment, {"moment": value}, stream.exchange, value)
            self.check_state(stream, ROWS[:count])


class StrikeTest(unittest.TestCase, StateCheck):
    def test_strike(self):
        source = random.Random(110)
        for stream in some_streams(111, 60):
            rows = stream.rows()
            struck = source.sample(range(1, len(rows) + 1), source.randint(0, len(rows)))
            self.assertIsNone(stream.strike(source.choice([list, tuple])(struck)))
            self.check_state(stream, [row for at, row in enumerate(rows) if at + 1 not in struck])

    def test_all_and_none(self):
        stream = example()
        stream.strike([])
        self.check_state(stream, ROWS)
        stream.strike(moments=[4, 1, 3, 2])
        self.check_state(stream, [])
        stream.strike(())
        check_raises(self, BadMoments, {"at": 0}, stream.strike, [1])

    def test_spare_moments(self):
        for stream in some_streams(113, 60):
            before = stream.standing
            tellers = stream.tellers()
            stream.strike([moment for moment in range(1, len(stream) + 1) if moment not in tellers])
            self.assertEqual(stream.standing, before)
            self.assertEqual([len(stream), stream.spare_count], [len(tellers), 0])

    def test_wrong_moments(self):
        stream = example()
        for value in any_values() + [stream, "12", {1: 2}]:
            if not isinstance(value, (list, tuple)):
                check_raises(self, BadMoments, {"at": -1}, stream.strike, value)
        for value in wrong_moments(1, 4):
            check_raises(self, BadMoments, {"at": 0}, stream.strike, [value])
            check_raises(self, BadMoments, {"at": 2}, stream.strike, (2, 4, value, 2, None))
        check_raises(self, BadMoments, {"at": 1}, stream.strike, [3, 3, True])
        check_raises(self, BadMoments, {"at": 3}, stream.strike, [1, 2, 3, 1])
        self.check_state(stream, ROWS)


class WindowTest(unittest.TestCase):
    def test_all_windows(self):
        for stream in some_streams(120, 40, 7):
            rows = stream.rows()
            for start in range(1, len(rows) + 1):
                self.assertEqual(stream.window(start=start), standing_of(stream.band.size, rows[start - 1:]))
                self.assertEqual(stream.window(start=start, end=None), stream.window(start=start))
                self.assertEqual(stream.tellers(start=start),
                                 [start - 1 + moment for moment in tellers_of(rows[start - 1:])])
                for end in range(start, len(rows) + 1):
                    part = rows[start - 1:end]
                    self.assertEqual(stream.window(start=start, end=end), standing_of(stream.band.size, part))
                    self.assertTrue(same(stream.tellers(end=end, start=start),
                                         [start - 1 + moment for moment in tellers_of(part)]))
            for end in range(1, len(rows) + 1):
                self.assertEqual(stream.window(end=end), standing_of(stream.band.size, rows[:end]))
                self.assertEqual(stream.tellers(end=end), tellers_of(rows[:end]))
            if rows:
                self.assertEqual(stream.window(), stream.standing)

    def test_the_ends_describe_all_windows(self):
        for stream in some_streams(122, 40, 7):
            ends = [None, *stream.ends()]
            for start in range(1, len(stream) + 1):
                for end in range(start, len(stream) + 1):
                    expected = [i for i in range(end, start - 1, -1) if ends[i] is None or end < ends[i]]
                    self.assertEqual(stream.tellers(start=start, end=end), expected)

    def test_wrong_windows(self):
        stream = example()
        for call in (stream.window, stream.tellers):
            for value in wrong_moments(1, 4):
                check_raises(self, NoMoment, {"moment": value}, call, start=value)
                check_raises(self, NoMoment, {"moment": value}, call, start=value, end=5)
                if value is not None:
                    check_raises(self, NoMoment, {"moment": value}, call, end=value)
                    check_raises(self, NoMoment, {"moment": value}, call, start=4, end=value)
            check_raises(self, NoMoment, {"moment": 2}, call, start=3, end=2)
            with self.assertRaises(TypeError):
                call(1, 2)

    def test_the_empty_stream(self):
        stream = Stream(band_of_14())
        for named in ({}, {"start": 1}, {"end": None}, {"start": 1, "end": None}):
            check_raises(self, NoMoment, {"moment": 1}, stream.window, **named)
            self.assertTrue(same(stream.tellers(**named), []))
        for call in (stream.window, stream.tellers):
            for value in wrong_moments(1, 1):
                check_raises(self, NoMoment, {"moment": value}, call, start=value)
            for end in (0, 1, True, "x"):
                check_raises(self, NoMoment, {"moment": 1}, call, start=1, end=end)
                check_raises(self, NoMoment, {"moment": 1}, call, end=end)
        check_raises(self, NoMoment, {"moment": 0}, stream.window, start=0)

    def test_end_of(self):
        stream = example()
        self.assertEqual([stream.end_of(moment) for moment in (1, 2, 3, 4)], [3, None, None, None])
        self.assertEqual(stream.end_of(moment=1), 3)
        for value in wrong_moments(1, 4):
            check_raises(self, NoMoment, {"moment": value}, stream.end_of, value)
            check_raises(self, NoMoment, {"moment": value}, Stream(band_of_14()).end_of, value)

    def test_what_was_told_stays(self):
        stream = example()
        told = [stream.rows(), stream.tellers(), stream.ends(), stream.block()]
        stream.tell("01.")
        stream.strike([1, 2])
        self.assertEqual(told, [ROWS, [4, 3, 2], [3, None, None, None], Block(band_of_14(), ROWS)])


class OntoTest(unittest.TestCase, StateCheck):
    def test_onto(self):
        stream = example()
        onto = stream.onto(["c", "a"])
        self.assertEqual(onto.band, band_of_14().onto(["c", "a"]))
        self.check_state(onto, ["0.", ".0", "1.", ".1"])
        self.check_state(stream.onto(("b",)), ["1", "1", ".", "."])
        self.check_state(stream.onto(cells=["a", "b", "c"]), ROWS)
        self.check_state(Stream(band_of_14()).onto(["b"]), [])

    def test_facts(self):
        source = random.Random(130)
        for stream in some_streams(131, 60):
            names = stream.band.names()
            chosen = source.sample(names, source.randint(1, len(names)))
            places = [at for at, name in enumerate(names) if name in chosen]
            onto = stream.onto(chosen)
            self.assertEqual(onto.standing, "".join(stream.standing[at] for at in places))
            self.assertEqual(onto.rows(), ["".join(row[at] for at in places) for row in stream.rows()])
            for before, after in zip(stream.ends(), onto.ends()):
                self.assertTrue(before is None or after is not None and after <= before)

    def test_led_apart(self):
        stream = example()
        onto = stream.onto(["a"])
        stream.tell("01.")
        self.check_state(onto, ["0", ".", "1", "."])
        onto.tell("0")
        self.check_state(stream, [*ROWS, "01."])

    def test_wrong_cells(self):
        stream = example()
        for value in any_values() + [stream, "ab"]:
            if not isinstance(value, (list, tuple)) or len(value) == 0:
                check_raises(self, BadCells, {"at": -1}, stream.onto, value)
        for value in any_values() + [stream]:
            if value != "a":
                check_raises(self, UnknownCell, {"name": value}, stream.onto, ["b", value, "x"])
        check_raises(self, UnknownCell, {"name": "b"}, stream.onto, ["b", "b"])


class TwinTest(unittest.TestCase, StateCheck):
    def test_twin(self):
        stream = example()
        twin = stream.twin()
        self.assertEqual(twin, stream)
        self.check_state(twin, ROWS)
        stream.take(1)
        self.check_state(twin, ROWS)
        twin.tell("...")
        self.check_state(stream, ROWS[1:])

    def test_sums(self):
        one, two = example(), Stream(band_of_14(), ["...", "01."])
        both = one + two
        self.check_state(both, [*ROWS, "...", "01."])
        self.check_state(two + one, ["...", "01.", *ROWS])
        self.check_state(one + one, ROWS + ROWS)
        self.check_state(one + Stream(band_of_14()), ROWS)
        self.check_state(Stream(band_of_14()) + Stream(band_of_14()), [])
        both.tell("1..")
        one.take(1)
        self.check_state(both, [*ROWS, "...", "01.", "1.."])
        self.check_state(one, ROWS[1:])
        self.check_state(two, ["...", "01."])

    def test_long_sums(self):
        long = Stream(band_of_14(), ["01."] * 399)
        self.assertEqual(len(long + Stream(band_of_14(), ["1.."])), 400)
        check_raises(self, TooMany, {"most": 400}, lambda: long + Stream(band_of_14(), ["1..", "1.."]))
        check_raises(self, TooMany, {"most": 400}, lambda: long + long)

    def test_sums_with_something_else(self):
        for value in (None, 1, "01.", ["01."], band_of_14()):
            with self.assertRaises(TypeError):
                example() + value
            with self.assertRaises(TypeError):
                value + example()

    def test_equal(self):
        self.assertTrue(example() == example())
        self.assertFalse(example() != example())
        self.assertTrue(example() != Stream(band_of_14(), ROWS[:3]))
        self.assertTrue(example() != Stream(band_of_14(), ROWS[::-1]))
        self.assertTrue(example() != Stream(Band(CELLS, ROWS[::-1]), ROWS))
        self.assertTrue(Stream(band_of_14()) != Stream(Band(CELLS, ROWS[::-1])))
        self.assertTrue(Stream(band_of_14()) == Stream(band_of_14()))

    def test_equals_nothing_of_another_class(self):
        for value in any_values() + [band_of_14(), ROWS, Block(band_of_14(), ROWS)]:
            self.assertIs(example() == value, False)
            self.assertIs(value == example(), False)

    def test_always_true_and_repr(self):
        for count in (0, 1, 4):
            stream = Stream(band_of_14(), ROWS[:count])
            self.assertIs(bool(stream), True)
            self.assertEqual(repr(stream), f"Stream({count} moments)")

    def test_blocks(self):
        for stream in some_streams(140, 30):
            block = stream.block()
            self.assertEqual(block.band, stream.band)
            self.assertEqual([block.length, block.standing], [len(stream), stream.standing])
            self.assertEqual(block.tellers(), [(moment, stream[moment]) for moment in stream.tellers()])


class ManyChangesTest(unittest.TestCase, StateCheck):
    """[19]: after each change all answers are those of a stream that was made with these rows."""

    def change(self, source, stream, rows):
        word = source.choice(["tell", "put", "take", "exchange", "set", "strike"])
        row = source.choice(stream.band.rows())
        if word == "tell":
            self.assertEqual(stream.tell(row, row), len(rows) + 2)
            rows.extend([row, row])
        elif word == "put":
            behind = source.randint(0, len(rows))
            stream.put(row, behind=behind)
            rows.insert(behind, row)
        elif word == "take" and rows:
            moment = source.randint(1, len(rows))
            self.assertEqual(stream.take(moment), rows.pop(moment - 1))
        elif word == "exchange" and len(rows) > 1:
            moment = source.randint(1, len(rows) - 1)
            stream.exchange(moment)
            rows[moment - 1], rows[moment] = rows[moment], rows[moment - 1]
        elif word == "set" and rows:
            moment = source.randint(1, len(rows))
            stream[moment] = row
            rows[moment - 1] = row
        elif word == "strike" and len(rows) > 6:
            struck = source.sample(range(1, len(rows) + 1), 3)
            stream.strike(struck)
            rows[:] = [kept for at, kept in enumerate(rows) if at + 1 not in struck]

    def test_many_changes(self):
        source = random.Random(150)
        for stream in some_streams(151, 12):
            rows = stream.rows()
            twin, before = stream.twin(), stream.rows()
            for _ in range(30):
                self.change(source, stream, rows)
                self.check_state(stream, rows)
            self.check_state(twin, before)


if __name__ == "__main__":
    unittest.main()
