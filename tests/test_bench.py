"""The interface under newesttells/bench.py; promises [2], [19], [48] and [50]."""

import copy
import random
import unittest

from benches import EXAMPLE, Model, Refused, random_deed, random_line
from helpers import any_values, check_raises, error_of, same, values_of
from newesttells.bands import Band
from newesttells.bench import Bench, replayed
from newesttells.benchtexts import read_bench
from newesttells.errors import (BadCells, BadDeed, BadName, BadRow, BadSeed, InUse, NoMoment, NotInBand, NothingLeft,
                                TakenName, TooMany, UnknownName, Untold)
from newesttells.streams import Stream
from test_books import bad_rows, example
from test_streams import wrong_moments

CELLS, SEEDS = EXAMPLE
BAND = ("band", "k", CELLS, SEEDS)
TEXT = "band k\ncell a 2\ncell b 2\nseed 0.\nseed .1\nseed 11\nstream s k\nmoment 11\nmoment 0.\n"
NAMES = ("k", "s", "t", "q", "labels")


def band_of_bench():
    return Band(*EXAMPLE)


def small_bench():
    """A bench with the band k and the stream s of the rows 11, 0. and .1."""
    bench = Bench()
    bench.do(BAND, ("stream", "s", "k"))
    bench.do(("tell", "s", "11"), ("tell", "s", "0."), ("tell", "s", ".1"))
    return bench


def state_of(bench):
    return (bench.labels(), bench.text(), bench.history(), bench.journal(), bench.log(), bench.busy,
            [bench.band_at(label) if label not in streams_of(bench) else bench.stream_at(label)
             for label in bench.labels()])


def streams_of(bench):
    return [line.split(" ")[1] for line in bench.text().split("\n") if line.startswith("stream ")]


def wrong_labels():
    """Values that are no label of the small bench."""
    return [value for value in any_values() + ["K", "ks", "s ", "k\n", "abcdefg", ["s"], ("k",), {"k": 1}, example(),
                                               band_of_bench(), "", "labels"]]


class RefusedTest(unittest.TestCase):
    """What the tests of refused deeds share."""

    def check_refused(self, bench, kind, values, *deeds):
        before, deep = state_of(bench), copy.deepcopy(deeds)
        check_raises(self, kind, values, bench.do, *deeds)
        check_raises(self, kind, values, bench.tried, *deeds)
        self.assertEqual(state_of(bench), before)
        self.assertIs(bench.busy, False)
        self.assertTrue(all(type(one) is type(other) for one, other in zip(deeds, deep)))


class DeedTest(RefusedTest):
    def test_the_example(self):
        bench = Bench()
        self.assertIsNone(bench.do(BAND, ("stream", "s", "k"), ("tell", "s", "0."), ("put", "s", "11", 0)))
        self.assertEqual([bench.say("standing s"), bench.say("end s 1"), bench.say("made k 00"), bench.history()],
                         ["01", "open", "no", (1, 0)])
        self.assertTrue(same([bench.text(), str(bench), bench.labels()], [TEXT, TEXT, ["k", "s"]]))

    def test_an_empty_bench(self):
        bench = Bench()
        self.assertTrue(same([bench.text(), str(bench), bench.labels(), bench.history(), bench.journal(), bench.log(),
                              len(bench), bool(bench), repr(bench), bench.busy, bench == Bench()],
                             ["", "", [], (0, 0), [], [], 0, True, "Bench(0 labels)", False, True]))

    def test_each_deed(self):
        bench = small_bench()
        self.assertEqual(bench.stream_at("s").rows(), ["11", "0.", ".1"])
        for deed, rows in ((("put", "s", "01", 0), ["01", "11", "0.", ".1"]),
                           (("exchange", "s", 2), ["01", "0.", "11", ".1"]),
                           (("set", "s", 4, ".."), ["01", "0.", "11", ".."]),
                           (("take", "s", 1), ["0.", "11", ".."]),
                           (("put", "s", "0.", 3), ["0.", "11", "..", "0."]),
                           (("tell", "s", ".1"), ["0.", "11", "..", "0.", ".1"])):
            self.assertIsNone(bench.do(deed))
            self.assertEqual(bench.stream_at(label="s").rows(), rows)
        self.assertEqual(bench.history(), (8, 0))
        bench.do(("drop", "s"))
        self.assertEqual(bench.labels(), ["k"])
        bench.do(("drop", "k"))
        self.assertEqual([bench.labels(), bench.text(), repr(bench)], [[], "", "Bench(0 labels)"])

    def test_labels_keep_their_order(self):
        bench = small_bench()
        bench.do(("band", "b", CELLS, SEEDS), ("stream", "a", "b"), ("band", "z", CELLS, SEEDS[::-1]))
        self.assertEqual(bench.labels(), ["k", "s", "b", "a", "z"])
        self.assertEqual([line for line in bench.text().split("\n") if line[:4] in ("band", "stre")],
                         ["band k", "band b", "band z", "stream s k", "stream a b"])
        bench.do(("drop", "s"), ("stream", "s", "z"))
        self.assertEqual([bench.labels(), repr(bench), len(bench)], [["k", "b", "a", "z", "s"], "Bench(5 labels)", 5])
        bench.do(("tell", "a", "0."))
        self.assertEqual(bench.labels(), ["k", "b", "a", "z", "s"])

    def test_12_and_13_labels(self):
        bench = Bench()
        bench.do(*[("band", name, CELLS, SEEDS) for name in "abcdef"])
        bench.do(*[("stream", name, "f") for name in "uvwxy"])
        bench.do(("stream", "z", "a"))
        self.assertEqual([len(bench), repr(bench)], [12, "Bench(12 labels)"])
        for deed in (("band", "g", CELLS, SEEDS), ("stream", "g", "a")):
            self.check_refused(bench, TooMany, {"most": 12}, deed)
        self.check_refused(bench, BadName, {"value": "G"}, ("band", "G", CELLS, SEEDS))
        self.check_refused(bench, TakenName, {"name": "u"}, ("stream", "u", "nobody"))
        self.check_refused(bench, UnknownName, {"name": "u"}, ("stream", "g", "u"))
        self.check_refused(bench, Untold, {"cell": "b"}, ("band", "g", CELLS, ["0."]))
        bench.do(("drop", "u"), ("stream", "g", "b"))
        self.assertEqual(bench.labels(), [*"abcdefvwxyzg"])

    def test_400_and_401_moments(self):
        bench = small_bench()
        bench.do(*[("tell", "s", "0.")] * 397)
        self.assertEqual(len(bench.stream_at("s")), 400)
        self.check_refused(bench, TooMany, {"most": 400}, ("tell", "s", "0."))
        self.check_refused(bench, TooMany, {"most": 400}, ("tell", "s", None))
        self.check_refused(bench, TooMany, {"most": 400}, ("put", "s", "0.", 400))
        self.check_refused(bench, NoMoment, {"moment": 401}, ("put", "s", "0.", 401))
        self.check_refused(bench, NotInBand, {"row": "00"}, ("put", "s", "00", 401))
        bench.do(("take", "s", 400), ("put", "s", "..", 0))
        self.assertEqual([len(bench.stream_at("s")), bench.stream_at("s")[1]], [400, ".."])
        self.assertEqual(read_bench(bench.text()), bench)

    def test_calls_without_deeds(self):
        bench = small_bench()
        bench.undo()
        before = state_of(bench)
        self.assertIsNone(bench.do())
        self.assertEqual(state_of(bench), before)
        self.assertEqual(bench.history(), (1, 1))
        self.assertEqual([bench.tried(), replayed([()]).history()], [bench.text(), (0, 0)])


class WrongDeedTest(RefusedTest):
    def test_deeds_that_are_none(self):
        wrong = [value for value in any_values()] + [
            ("band",), ("band", "q", CELLS), (*BAND, None), ("stream", "q"), ("stream", "q", "k", None), ("tell", "s"),
            ("tell", "s", "0.", "0."), ("put", "s", "0."), ("put", "s", "0.", 0, 0), ("take", "s"),
            ("take", "s", 1, 1), ("exchange", "s"), ("exchange", "s", 1, 1), ("set", "s", 1), ("set", "s", 1, "0.", 1),
            ("drop",), ("drop", "s", "k"), ("Drop", "s"), ("undo",), ("change", "s", 1, "0."), (None, "s"),
            (["drop"], "s"),
            (("drop",), "s"), ["drop", "s"], ["tell", "s", "0."], "drop s", {"drop": "s"}, (True, "s"), ("drop ", "s"),
            ({"drop": 1}, "s"), ("", "s"), small_bench()]
        bench = small_bench()
        for value in wrong:
            self.check_refused(bench, BadDeed, {"at": 0}, value)
            # This is checked ahead of everything else, also ahead of the errors of earlier deeds.
            self.check_refused(bench, BadDeed, {"at": 1}, ("tell", "s", "0."), value, None)
            self.check_refused(bench, BadDeed, {"at": 2}, ("tell", "nobody", None), ("drop", "k"), value)

    def test_all_deeds_or_none(self):
        bench = small_bench()
        self.check_refused(bench, NoMoment, {"moment": 9}, ("tell", "s", "0."), ("drop", "s"), ("stream", "s", "k"),
                           ("band", "q", CELLS, SEEDS), ("stream", "t", "q"), ("tell", "s", "11"), ("take", "s", 9))
        self.check_refused(bench, BadRow, {"row": None}, ("take", "s", 1), ("set", "s", 1, ".."), ("exchange", "s", 1),
                           ("put", "s", "01", 0), ("tell", "s", None), ("tell", "s", False))
        self.assertEqual(bench.stream_at("s").rows(), ["11", "0.", ".1"])

    def test_wrong_labels_of_new_ones(self):
        bench = small_bench()
        for value in any_values() + ["K", "k1", "abcdefg", "k ", "", ["k"], example()]:
            if value != "a":
                self.check_refused(bench, BadName, {"value": value}, ("band", value, None, None))
                self.check_refused(bench, BadName, {"value": value}, ("stream", value, None))
        for name in ("k", "s"):
            self.check_refused(bench, TakenName, {"name": name}, ("band", name, None, None))
            self.check_refused(bench, TakenName, {"name": name}, ("stream", name, "nobody"))
        bench.do(("band", "abcdef", CELLS, SEEDS), ("stream", "a", "abcdef"))
        self.assertEqual(bench.labels(), ["k", "s", "abcdef", "a"])

    def test_wrong_bands(self):
        bench = small_bench()
        self.check_refused(bench, BadCells, {"at": -1}, ("band", "q", None, None))
        self.check_refused(bench, BadCells, {"at": 1}, ("band", "q", [("a", 2), ("a", 2)], None))
        self.check_refused(bench, BadSeed, {"at": -1}, ("band", "q", CELLS, "0."))
        self.check_refused(bench, BadSeed, {"at": 1}, ("band", "q", CELLS, ["0.", "0."]))
        self.check_refused(bench, Untold, {"cell": "b"}, ("band", "q", CELLS, ["0."]))
        self.check_refused(bench, TooMany, {"most": 30}, ("band", "q", CELLS, ["0."] * 31))
        ten = [(name, 1) for name in "abcdefghij"]
        seeds = ["." * at + "0" + "." * (9 - at) for at in range(10)]
        self.check_refused(bench, TooMany, {"most": 800}, ("band", "q", ten, seeds))

    def test_unknown_names(self):
        bench = small_bench()
        for value in wrong_labels():
            for deed in (("stream", "q", value), ("tell", value, None), ("put", value, None, None),
                         ("take", value, None), ("exchange", value, None), ("set", value, None, None), ("drop", value)):
                self.check_refused(bench, UnknownName, {"name": value}, deed)
            check_raises(self, UnknownName, {"name": value}, bench.band_at, value)
            check_raises(self, UnknownName, {"name": value}, bench.stream_at, value)
        # Labels of the other kind.
        for deed in (("tell", "k", "0."), ("put", "k", "0.", 0), ("take", "k", 1), ("exchange", "k", 1),
                     ("set", "k", 1, "0.")):
            self.check_refused(bench, UnknownName, {"name": "k"}, deed)
        self.check_refused(bench, UnknownName, {"name": "s"}, ("stream", "q", "s"))
        check_raises(self, UnknownName, {"name": "s"}, bench.band_at, "s")
        check_raises(self, UnknownName, {"name": "k"}, bench.stream_at, "k")

    def test_wrong_rows_and_moments(self):
        bench = small_bench()
        for value in bad_rows():
            for deed in (("tell", "s", value), ("put", "s", value, None), ("set", "s", 1, value)):
                self.check_refused(bench, BadRow, {"row": value}, deed)
        for deed in (("tell", "s", "00"), ("put", "s", "00", 9), ("set", "s", 3, "00")):
            self.check_refused(bench, NotInBand, {"row": "00"}, deed)
        for value in wrong_moments(1, 3):
            self.check_refused(bench, NoMoment, {"moment": value}, ("take", "s", value))
            self.check_refused(bench, NoMoment, {"moment": value}, ("set", "s", value, None))
        for value in wrong_moments(0, 3):
            self.check_refused(bench, NoMoment, {"moment": value}, ("put", "s", "0.", value))
        for value in wrong_moments(1, 2):
            self.check_refused(bench, NoMoment, {"moment": value}, ("exchange", "s", value))

    def test_bands_in_use(self):
        bench = small_bench()
        self.check_refused(bench, InUse, {"name": "k"}, ("drop", "k"))
        self.check_refused(bench, InUse, {"name": "k"}, ("stream", "t", "k"), ("drop", "s"), ("drop", "k"))
        bench.do(("band", "q", CELLS, SEEDS), ("drop", "q"))
        bench.do(("drop", "s"), ("drop", "k"))
        self.assertEqual(len(bench), 0)
        bench.undo()
        self.check_refused(bench, InUse, {"name": "k"}, ("drop", "k"))


class HistoryTest(RefusedTest):
    def test_undo_and_redo_to_both_ends(self):
        bench = Bench()
        texts, labels, journals = [bench.text()], [bench.labels()], [[]]
        for call in ([BAND], [("stream", "s", "k"), ("tell", "s", "0.")], [("put", "s", "11", 0)], [("take", "s", 1)],
                     [("tell", "s", ".1"), ("exchange", "s", 1)], [("set", "s", 1, "11")], [("drop", "s")]):
            bench.do(*call)
            texts.append(bench.text())
            labels.append(bench.labels())
            journals.append(bench.journal())
        for at in [*range(6, -1, -1), *range(1, 8), *range(6, 2, -1)]:
            step = bench.undo if bench.history()[0] > at else bench.redo
            self.assertIsNone(step())
            self.assertTrue(same([bench.history(), bench.text(), bench.labels(), bench.journal()],
                                 [(at, 7 - at), texts[at], labels[at], journals[at]]))
            if at == 0:
                check_raises(self, NothingLeft, {}, bench.undo)
            if at == 7:
                check_raises(self, NothingLeft, {}, bench.redo)

    def test_nothing_left(self):
        for bench in (Bench(), read_bench(TEXT)):
            before = state_of(bench)
            check_raises(self, NothingLeft, {}, bench.undo)
            check_raises(self, NothingLeft, {}, bench.redo)
            self.assertEqual(state_of(bench), before)

    def test_a_new_step_behind_undo(self):
        bench = small_bench()
        bench.undo()
        self.assertEqual(bench.history(), (1, 1))
        # A refused call leaves the step that can be redone.
        self.check_refused(bench, BadRow, {"row": "0"}, ("tell", "s", "0"))
        self.assertEqual(bench.tried(("tell", "s", "0.")), bench.text() + "moment 0.\n")
        self.assertEqual(bench.history(), (1, 1))
        bench.do(("tell", "s", ".1"))
        self.assertEqual([bench.history(), bench.stream_at("s").rows()], [(2, 0), [".1"]])
        check_raises(self, NothingLeft, {}, bench.redo)
        self.assertEqual(bench.journal(), [(BAND, ("stream", "s", "k")), (("tell", "s", ".1"),)])

    def test_one_step_for_a_call(self):
        bench = small_bench()
        self.assertEqual(bench.history(), (2, 0))
        bench.undo()
        self.assertEqual(bench.stream_at("s").rows(), [])
        bench.undo()
        self.assertEqual(bench.labels(), [])
        bench.redo()
        bench.redo()
        self.assertEqual(bench.stream_at("s").rows(), ["11", "0.", ".1"])

    def test_replayed(self):
        bench = small_bench()
        bench.do(("drop", "s"))
        bench.undo()
        again = replayed(bench.journal())
        self.assertEqual([again.text(), again.labels(), again.journal(), again.history(), again.log()],
                         [bench.text(), bench.labels(), bench.journal(), (2, 0), []])
        self.assertEqual(replayed(journal=tuple(bench.journal())), bench)
        self.assertEqual([replayed([]), replayed(())], [Bench(), Bench()])
        check_raises(self, BadDeed, {"at": 1}, replayed, [(BAND,), (("drop", "k"), None)])
        check_raises(self, UnknownName, {"name": "s"}, replayed, [(BAND,), (("tell", "s", "0."),), (None,)])

    def test_tried(self):
        bench = small_bench()
        before = state_of(bench)
        text = bench.tried(("tell", "s", "01"), ("drop", "s"), ("drop", "k"), ("band", "q", CELLS, SEEDS))
        self.assertEqual([text, state_of(bench)], [TEXT.replace("band k", "band q").split("stream")[0], before])
        self.assertEqual(bench.tried(("take", "s", 1)), TEXT.replace("moment 11\n", "") + "moment .1\n")


class TellingTest(unittest.TestCase):
    def test_what_a_bench_tells_is_new(self):
        bench = small_bench()
        bench.say("rows k")
        before = copy.deepcopy(state_of(bench))
        bench.labels().clear()
        bench.journal()[0][0][2].clear()
        bench.journal()[0][0][3].append("00")
        bench.journal().pop()
        bench.log().append(("a", "b"))
        bench.band_at("k").seeds().clear()
        stream = bench.stream_at("s")
        stream.tell("01")
        stream.take(1)
        stream[1] = ".."
        self.assertEqual(state_of(bench), before)

    def test_what_is_passed_is_copied(self):
        cells, seeds = [("a", 2), ("b", 2)], ["0.", ".1", "11"]
        bench = Bench()
        bench.do(("band", "k", cells, seeds))
        cells.append(("c", 1))
        seeds.clear()
        self.assertEqual([bench.band_at("k"), bench.journal()], [band_of_bench(), [(BAND,)]])
        bench.undo()
        bench.redo()
        self.assertEqual(bench.band_at(label="k"), band_of_bench())
        self.assertEqual(replayed(bench.journal()), bench)

    def test_the_journal_has_the_deeds_as_they_were(self):
        bench = Bench()
        call = (("band", "k", tuple(CELLS), tuple(SEEDS)), ("band", "q", list(CELLS), tuple(SEEDS)),
                ("stream", "s", "q"))
        bench.do(*call)
        self.assertTrue(same(bench.journal(), [call]))

    def test_streams_are_led_apart(self):
        bench = small_bench()
        one, other = bench.stream_at("s"), bench.stream_at("s")
        bench.do(("tell", "s", "01"))
        one.strike([1, 2, 3])
        self.assertEqual([len(one), len(other), len(bench.stream_at("s"))], [0, 3, 4])
        bench.undo()
        self.assertEqual(bench.stream_at("s").rows(), ["11", "0.", ".1"])
        self.assertEqual(bench.stream_at("s"), Stream(band_of_bench(), ["11", "0.", ".1"]))

    def test_twins(self):
        bench = small_bench()
        bench.say("standing s")
        bench.undo()
        other = bench.twin()
        self.assertEqual(state_of(other), state_of(bench))
        self.assertTrue(other == bench)
        other.redo()
        other.do(("tell", "s", "01"))
        other.say("undo")
        self.assertEqual([bench.history(), bench.log(), bench.stream_at("s").rows()],
                         [(1, 1), [("standing s", "01")], []])
        bench.do(("drop", "s"))
        bench.say("redo")
        self.assertEqual([other.history(), len(other.log()), other.stream_at("s").rows()],
                         [(2, 1), 2, ["11", "0.", ".1"]])
        other.redo()
        other.undo()
        other.undo()
        self.assertEqual([other.history(), other.stream_at("s").rows()], [(1, 2), []])

    def test_in_and_len(self):
        bench = small_bench()
        for value in any_values() + [*wrong_labels(), bench]:
            self.assertIs(value in bench, False)
        self.assertTrue("k" in bench and "s" in bench and "t" not in bench)
        self.assertEqual([len(bench), bool(bench), repr(bench)], [2, True, "Bench(2 labels)"])
        bench.do(("drop", "s"))
        self.assertTrue("s" not in bench and "k" in bench)

    def test_equal(self):
        bench = small_bench()
        other = replayed([(BAND,), (("stream", "s", "k"), ("tell", "s", "11")), (("tell", "s", "0."),),
                          (("put", "s", ".1", 2),)])
        self.assertTrue(bench == other and not bench != other)
        # The texts are equal although bands and streams were kept in another order.
        first, second = Bench(), Bench()
        first.do(BAND, ("stream", "s", "k"), ("band", "q", CELLS, SEEDS))
        second.do(BAND, ("band", "q", CELLS, SEEDS), ("stream", "s", "k"))
        self.assertEqual(first, second)
        other.do(("exchange", "s", 1))
        self.assertFalse(bench == other)
        other.undo()
        self.assertTrue(bench == other)
        for value in any_values() + [bench.text(), band_of_bench()]:
            self.assertFalse(bench == value)
            self.assertTrue(bench != value)

    def test_busy_is_only_read(self):
        bench = small_bench()
        self.assertIs(bench.busy, False)
        with self.assertRaises(AttributeError):
            bench.busy = True
        error_of(bench.do, None)
        error_of(bench.tried, ("drop", "k"))
        self.assertIs(bench.busy, False)


class SayTest(unittest.TestCase):
    def check_lines(self, bench, answers):
        for line, answer in answers.items():
            before = bench.log()
            self.assertTrue(same(bench.say(line), answer), (line, bench.log()[-1]))
            self.assertEqual(bench.log(), [*before, (line, answer)])

    def test_answers(self):
        self.check_lines(small_bench(), {
            "standing s": "01", "tellers s": "3 2", "window s 1 1": "11", "window s 1 2": "01", "window s 2 3": "01",
            "window s 3 3": ".1", "end s 1": "3", "end s 2": "open", "end s 3": "open", "rows k": "5",
            "made k 01": "yes", "made k ..": "yes", "made k 00": "no", "made k 0": "no", "made k yes": "no",
            "made k k": "no", "made k 000": "no", "made k ++": "no"})

    def test_an_empty_stream(self):
        bench = small_bench()
        bench.do(("stream", "t", "k"))
        answers = {"standing t": "..", "tellers t": "none", "window t 1 1": "error NoMoment",
                   "end t 1": "error NoMoment"}
        self.check_lines(bench, answers)
        bench.do(("tell", "t", ".."))
        self.check_lines(bench, {"standing t": "..", "tellers t": "none", "window t 1 1": "..", "end t 1": "1"})

    def test_errors(self):
        unknown = ["standing k", "standing q", "standing K", "standing 5", "tellers k", "window k 1 1", "window q 7 8",
                   "window nobody 9 0", "end k 1", "end x 0", "rows s", "rows q", "rows rows", "made s 01", "made q 01",
                   "made K x", "standing s.", "rows ("]
        self.check_lines(small_bench(), {line: "error UnknownName" for line in unknown})
        missing = ["window s 0 1", "window s 4 4", "window s 1 4", "window s 2 1", "window s 1 0", "window s 0 0",
                   "window s 999999999 1", "window s 1 999999999", "end s 0", "end s 4", "end s 999999999"]
        self.check_lines(small_bench(), {line: "error NoMoment" for line in missing})

    def test_unknown(self):
        lines = ["", " ", "  ", "\n", "standing", "standing ", " standing s", "standing  s", "standing s ",
                 "standing s s",
                 "standing s\n", "standing\ns", "\nstanding s", "Standing s", "stand s", "tellers", "tellers s 1",
                 "tellers s\n", "window", "window s", "window s 1", "window s 1 ", "window s 1 1 1", "window s  1 1",
                 "window s 01 1", "window s 1 01", "window s 00 1", "window s 1 1000000000", "window s 0000000001 1",
                 "window s -1 1", "window s +1 1", "window s 1. 1", "window s a 1", "window s 1 b", "window s 1_0 1",
                 "window 1 1 s", "end", "end s", "end s ", "end s x", "end s 01", "end s 1 1", "end s 1000000000",
                 "end s -0", "end s 1\n", "rows", "rows k k", "rows k\n", "made", "made k", "made k ", "made k 01 01",
                 "made k  01", "made k 01\n", "undo ", "undo s", "undo 1", "redo s", " redo", "undo\n", "redo\n\n",
                 "drop s", "tell s 0.", "labels", "unknown", "error", "cell a 2"]
        bench = small_bench()
        before = bench.text(), bench.history()
        self.check_lines(bench, {line: "unknown" for line in lines})
        self.assertEqual((bench.text(), bench.history()), before)
        self.assertEqual(len(bench.log()), len(lines))

    def test_unknown_ahead_of_the_errors(self):
        self.check_lines(small_bench(), {
            "window q x 1": "unknown", "window q 1 01": "unknown", "end k 00": "unknown", "end q ": "unknown",
            "window s 9 x": "unknown", "end q 1234567890": "unknown", "window nobody 000 1": "unknown",
            "made nobody ": "unknown", "rows nobody\n": "unknown", "standing nobody s": "unknown"})
        self.check_lines(Bench(), {"undo x": "unknown", "redo ": "unknown", "undo": "error NothingLeft",
                                   "redo": "error NothingLeft"})

    def test_undo_and_redo(self):
        bench = small_bench()
        said = ["undo", "undo", "undo", "redo", "standing s", "redo", "redo", "standing s"]
        self.assertEqual([bench(line) for line in said], ["done", "done", "error NothingLeft", "done", "..", "done",
                                                          "error NothingLeft", "01"])
        self.assertEqual([bench.history(), [line for line, _ in bench.log()]], [(2, 0), said])

    def test_say_and_calling(self):
        bench = small_bench()
        self.assertEqual([bench(line="rows k"), bench.say(line="rows k"), bench("rows k")], ["5"] * 3)
        self.assertTrue(same(bench.log(), [("rows k", "5")] * 3))
        bench.undo()
        bench.do(("tell", "s", ".."))
        self.assertEqual(len(bench.log()), 3)

    def test_numbers_of_nine_digits_and_great_bands(self):
        bench = Bench()
        cells = [("a", 1), ("b", 3), ("c", 3), ("d", 4), ("e", 4)]
        seeds = ["." * at + str(value) + "." * (4 - at) for at, (_, many) in enumerate(cells) for value in range(many)]
        bench.do(("band", "great", cells, seeds), ("stream", "s", "great"), *[("tell", "s", "0....")] * 400)
        self.check_lines(bench, {"rows great": "800", "end s 399": "400", "tellers s": "400", "window s 1 400": "0....",
                                 "end s 100000000": "error NoMoment", "made great 02233": "yes"})


class ModelTest(unittest.TestCase):
    def outcome(self, call, *args):
        try:
            return call(*args)
        except Refused as error:
            return error.args
        except (ValueError, LookupError) as error:
            return type(error).__name__, values_of(error)

    def check_same(self, bench, model):
        self.assertEqual([bench.labels(), bench.text(), bench.history(), bench.journal(), bench.log(), bench.busy],
                         [model.labels(), model.text(), (len(model.before), len(model.ahead)), model.calls, model.said,
                          False])
        self.assertEqual(len(bench), len(model.labels()))
        for item in model.state:
            kept = bench.band_at(item[0]) if len(item) == 2 else bench.stream_at(item[0])
            band = item[1] if len(item) == 2 else bench.band_at(item[1])
            self.assertEqual(kept, band if len(item) == 2 else Stream(band, item[2]))
        again = read_bench(bench.text())
        self.assertEqual([again, again.text()], [bench, bench.text()])
        self.assertEqual(replayed(bench.journal()).labels(), bench.labels())

    def test_by_chance(self):
        """Behind each call a bench is as the words of [48] say, and as one that was led there anew."""
        source = random.Random(1600)
        kinds = {}
        for _ in range(30):
            bench, model, twins = Bench(), Model(), []
            bench.do(BAND, ("stream", "s", "k"))
            model.do(BAND, ("stream", "s", "k"))
            for _ in range(40):
                step = source.random()
                if step < 0.6:
                    deeds = [random_deed(source, NAMES) for _ in range(source.choice([0, 1, 1, 1, 1, 2, 3]))]
                    deeds = [source.choice([deed, deed[1:], list(deed)]) if source.random() < 0.02 else deed
                             for deed in deeds]
                    tried = self.outcome(bench.tried, *deeds)
                    expected = self.outcome(model.do, *deeds)
                    self.assertEqual(self.outcome(bench.do, *deeds), expected)
                    self.assertEqual(tried, expected or bench.text())
                    if expected:
                        kinds[expected[0]] = kinds.get(expected[0], 0) + 1
                elif step < 0.85:
                    line = random_line(source, NAMES)
                    self.assertEqual(self.outcome(bench.say, line), self.outcome(model.say, line))
                else:
                    word = source.choice(["undo", "redo"])
                    self.assertEqual(self.outcome(getattr(bench, word)), self.outcome(getattr(model, word)))
                self.check_same(bench, model)
                if source.random() < 0.05:
                    twins.append((bench.twin(), copy.deepcopy(model)))
            for twin, old in twins:
                self.check_same(twin, old)
        self.assertEqual(sorted(set(kinds)), ["BadDeed", "BadRow", "BadSeed", "InUse", "NoMoment", "NotInBand",
                                              "TakenName", "UnknownName", "Untold"])


if __name__ == "__main__":
    unittest.main()
