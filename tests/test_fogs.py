"""The interface under newesttells/fogs.py; promises [2], [19], [23], [24] and [45]."""

import itertools
import random
import unittest

import oracle
from helpers import any_values, check_raises, same
from newesttells.bands import Band
from newesttells.errors import BadCells, BadLayer, BadSaying, NoMoment, TooMany, UnknownCell
from newesttells.fogs import Fog, fog_of
from newesttells.streams import Stream
from test_bands import singles
from test_streams import standing_of, wrong_moments

LAYERS = [["0.", ".1"], ["11", "0."]]


def band_of_8():
    return Band([("a", 2), ("b", 2)], ["0.", ".1", "11"])


def example():
    return Fog(band_of_8(), LAYERS)


def wide_band():
    """A band of four cells with all of its rows."""
    cells = [("a", 2), ("b", 4), ("c", 4), ("d", 1)]
    return Band(cells, [seed for at, (_, many) in enumerate(cells)
                        for seed in ["." * at + str(value) + "." * (3 - at) for value in range(many)]])


def standings_of(fog, layers=None):
    """The standings of all histories, one for each history, in the order of [23] for histories."""
    layers = fog.layers() if layers is None else layers
    return [standing_of(fog.band.size, rows) for rows in itertools.product(*layers)]


def fits(fog, rows, saying):
    standing = standing_of(fog.band.size, rows)
    return all(standing[fog.band.names().index(name)] == sign for name, sign in saying.items())


def fitting(fog, saying):
    return [list(rows) for rows in itertools.product(*fog.layers()) if fits(fog, rows, saying)]


def some_layers(source, band, most=5):
    return [source.sample(band.rows(), source.randint(1, min(3, len(band)))) for _ in range(source.randint(0, most))]


def some_fogs(seed, count, most=5):
    source = random.Random(seed)
    return [Fog(band, some_layers(source, band, most)) for band in oracle.random_bands(seed + 1, count)]


def all_sayings(band):
    signs = dict((name, "." + "0123"[:many]) for name, many in band.cells())
    for count in range(4):
        for names in itertools.combinations(band.names(), count):
            for chosen in itertools.product(*[signs[name] for name in names]):
                yield dict(zip(names, chosen))


def wrong_layers():
    """Values that are no layer of the band of [8], and no part of one."""
    good = example()
    return any_values() + [good, good.band, "0.", ["0.", "0."], ["0.", "00"], ["0.", None], ["0.", True], ("0.", "0"),
                           [["0."]], {"0.": 1}]


class StateCheck:
    """All answers of a fog, against its histories and against a fog that is made anew."""

    def check_state(self, fog, layers):
        self.assertTrue(same(fog.layers(), layers), (fog.layers(), layers))
        self.assertEqual([len(fog), repr(fog)], [len(layers), f"Fog({len(layers)} layers)"])
        self.assertEqual(fog, Fog(fog.band, layers))
        names = fog.band.names()
        standings = standings_of(fog)
        self.assertEqual(fog.sure(), "".join(signs[0] if len(set(signs)) == 1 else "?" for signs in zip(*standings)))
        self.assertTrue(same(fog.how_many({}), len(standings)))
        for k, name in enumerate(names):
            signs = sorted({standing[k] for standing in standings})
            self.assertEqual([fog.possible(name), fog.together([name])], ["".join(signs), signs])
            self.assertEqual(fog.how_many({name: "0"}), len([1 for standing in standings if standing[k] == "0"]))
        self.assertEqual(len(fog.table(names[:3])), len(layers) + 1)


class ConstructorTest(unittest.TestCase, StateCheck):
    def test_the_example(self):
        fog = example()
        self.assertTrue(same([fog.table(["a"]), fog.how_many({"b": "."}), fog.left({"a": "0", "b": "1"}), fog.sure()],
                             [[["."], ["0", "1"], ["0", "1"]], 1, [[".1"], ["0."]], "??"]))
        self.assertEqual(fog.band, band_of_8())
        self.check_state(fog, LAYERS)

    def test_no_layers(self):
        for fog in (Fog(band_of_8()), Fog(band_of_8(), []), Fog(band_of_8(), ())):
            self.check_state(fog, [])
            self.assertEqual([fog.sure(), fog.table(["b", "a"]), fog.together([])], ["..", [[".."]], [""]])
            self.assertEqual([fog.how_many({}), fog.how_many({"a": "."}), fog.how_many({"a": "0"})], [1, 1, 0])
            self.assertEqual([fog.left({"a": "."}), fog.left({"a": "0"})], [[], []])
            self.assertEqual([fog.history({"a": "."}), fog.history({"a": "0"})], [[], None])
            self.assertEqual([list(fog.histories({})), list(fog.histories({"b": "1"}))], [[[]], []])
            self.assertIs(bool(fog), True)

    def test_by_name_and_from_tuples(self):
        fog = Fog(band=band_of_8(), layers=tuple(tuple(choices) for choices in LAYERS))
        self.assertEqual(fog, example())
        self.assertTrue(same(fog.layers(), LAYERS))

    def test_60_and_61_layers(self):
        self.assertEqual(len(Fog(band_of_8(), [["0."]] * 60)), 60)
        check_raises(self, TooMany, {"most": 60}, Fog, band_of_8(), [["0."]] * 61)
        check_raises(self, TooMany, {"most": 60}, Fog, band_of_8(), [None] * 61)

    def test_1_8_and_9_choices(self):
        rows = wide_band().rows()
        self.assertEqual(Fog(wide_band(), [rows[:8], rows[:1], rows[8:16]]).layers(), [rows[:8], rows[:1], rows[8:16]])
        check_raises(self, BadLayer, {"at": 1}, Fog, wide_band(), [rows[:8], rows[:9]])
        check_raises(self, BadLayer, {"at": 1}, Fog, wide_band(), [rows[:8], []])

    def test_the_first_wrong_layer(self):
        for value in wrong_layers():
            check_raises(self, BadLayer, {"at": 0}, Fog, band_of_8(), [value])
            check_raises(self, BadLayer, {"at": 2}, Fog, band_of_8(), (*LAYERS, value, None))

    def test_lists_are_copied(self):
        layers = [list(choices) for choices in LAYERS]
        fog = Fog(band_of_8(), layers)
        layers[0].clear()
        layers.clear()
        fog.layers()[0].clear()
        fog.layers().clear()
        fog.table(["a"])[1].clear()
        fog.left({})[0].clear()
        fog.history({}).clear()
        next(fog.histories({})).clear()
        self.check_state(fog, LAYERS)

    def test_random_fogs(self):
        for fog in some_fogs(400, 60):
            self.check_state(fog, fog.layers())


class ChangeTest(unittest.TestCase, StateCheck):
    def test_tell(self):
        fog = Fog(band_of_8())
        self.assertTrue(same(fog.tell(["0.", ".1"]), 1))
        self.assertTrue(same(fog.tell(choices=("11", "0.")), 2))
        self.check_state(fog, LAYERS)

    def test_wrong_tells(self):
        fog = example()
        for value in wrong_layers():
            check_raises(self, BadLayer, {"at": -1}, fog.tell, value)
            check_raises(self, BadLayer, {"at": -1}, fog.put, value, behind=0)
            check_raises(self, BadLayer, {"at": -1}, fog.put, value, behind=None)
        self.check_state(fog, LAYERS)
        full = Fog(band_of_8(), [["0."]] * 60)
        check_raises(self, TooMany, {"most": 60}, full.tell, ["0."])
        check_raises(self, TooMany, {"most": 60}, full.tell, None)
        check_raises(self, BadLayer, {"at": -1}, full.put, None, behind=61)
        check_raises(self, NoMoment, {"moment": 61}, full.put, ["0."], behind=61)
        check_raises(self, TooMany, {"most": 60}, full.put, ["0."], behind=60)
        self.assertEqual(full, Fog(band_of_8(), [["0."]] * 60))

    def test_8_and_9_choices(self):
        rows = wide_band().rows()
        fog = Fog(wide_band())
        for call in (fog.tell, lambda choices: fog.put(choices, behind=0)):
            check_raises(self, BadLayer, {"at": -1}, call, rows[:9])
            call(rows[:8])
        self.assertEqual(fog.layers(), [rows[:8], rows[:8]])

    def test_put_and_take(self):
        for behind in range(3):
            fog = example()
            self.assertIsNone(fog.put((".1", ".."), behind=behind))
            self.check_state(fog, [*LAYERS[:behind], [".1", ".."], *LAYERS[behind:]])
            self.assertTrue(same(fog.take(behind + 1), [".1", ".."]))
            self.check_state(fog, LAYERS)
        fog.put(choices=["0."], behind=2)
        with self.assertRaises(TypeError):
            fog.put(["0."], 0)
        self.assertEqual([fog.take(moment=1), fog.take(1), fog.take(1)], [*LAYERS, ["0."]])
        check_raises(self, NoMoment, {"moment": 1}, fog.take, 1)

    def test_wrong_moments(self):
        fog = example()
        for value in wrong_moments(0, 2):
            check_raises(self, NoMoment, {"moment": value}, fog.put, ["0."], behind=value)
        for value in wrong_moments(1, 2):
            check_raises(self, NoMoment, {"moment": value}, fog.take, value)
            check_raises(self, NoMoment, {"moment": value}, fog.narrow, value, ["0."])
            check_raises(self, NoMoment, {"moment": value}, fog.narrow, value, None)
        self.check_state(fog, LAYERS)

    def test_narrow(self):
        fog = example()
        self.assertIsNone(fog.narrow(1, [".1"]))
        self.check_state(fog, [[".1"], ["11", "0."]])
        fog.narrow(choices=("0.", "11"), moment=2)
        self.check_state(fog, [[".1"], ["0.", "11"]])
        check_raises(self, BadLayer, {"at": -1}, fog.narrow, 1, ["0."])
        check_raises(self, BadLayer, {"at": -1}, fog.narrow, 1, [".1", ".1"])

    def test_wrong_narrows(self):
        fog = example()
        for value in wrong_layers() + [[".1", "11"], ["0.", ".1", "0."], ["..", "0."]]:
            check_raises(self, BadLayer, {"at": -1}, fog.narrow, 1, value)
        self.check_state(fog, LAYERS)

    def test_what_is_passed_is_copied(self):
        fog = example()
        told, put, narrowed = ["0."], [".1"], ["11"]
        fog.tell(told)
        fog.put(put, behind=0)
        fog.narrow(3, narrowed)
        for choices in (told, put, narrowed, fog.layers()[0], fog.twin().take(1)):
            choices.append("..")
        self.check_state(fog, [[".1"], ["0.", ".1"], ["11"], ["0."]])
        taken = fog.take(1)
        taken.append("..")
        self.check_state(fog, [["0.", ".1"], ["11"], ["0."]])

    def test_many_changes(self):
        source = random.Random(410)
        for fog in some_fogs(411, 10, 3):
            layers = fog.layers()
            twin, before = fog.twin(), fog.layers()
            for _ in range(15):
                self.change(source, fog, layers)
                self.check_state(fog, layers)
            self.check_state(twin, before)

    def change(self, source, fog, layers):
        choices = source.sample(fog.band.rows(), source.randint(1, min(3, len(fog.band))))
        word = source.choice(["tell", "put", "take", "take", "narrow"])
        if word == "tell":
            self.assertEqual(fog.tell(choices), len(layers) + 1)
            layers.append(choices)
        elif word == "put":
            behind = source.randint(0, len(layers))
            fog.put(choices, behind=behind)
            layers.insert(behind, choices)
        elif layers:
            moment = source.randint(1, len(layers))
            if word == "take":
                self.assertEqual(fog.take(moment), layers.pop(moment - 1))
            else:
                layers[moment - 1] = source.sample(layers[moment - 1], source.randint(1, len(layers[moment - 1])))
                fog.narrow(moment, layers[moment - 1])


class TableTest(unittest.TestCase):
    def test_against_all_histories(self):
        for fog in some_fogs(420, 60):
            layers, names = fog.layers(), fog.band.names()
            for count in range(4):
                for asked in itertools.permutations(names, count):
                    self.check_table(fog, layers, names, list(asked))

    def check_table(self, fog, layers, names, asked):
        expected = []
        for newest in range(len(layers) + 1):
            standings = standings_of(fog, layers[len(layers) - newest:])
            fillings = {"".join(standing[names.index(name)] for name in asked) for standing in standings}
            expected.append(sorted(fillings))
        self.assertTrue(same(fog.table(asked), expected), (layers, asked))
        self.assertEqual(fog.table(cells=tuple(asked)), expected)
        self.assertEqual(fog.together(cells=asked), expected[-1])

    def test_great_fogs(self):
        band = wide_band()
        fog = Fog(band, [band.rows()[at:at + 8] for at in range(60)])
        self.assertEqual(len(fog.table(["c", "a", "b"])), 61)
        self.assertEqual(fog.how_many({}), 8 ** 60)
        self.assertEqual(sum(fog.how_many({"c": sign}) for sign in ".0123"), 8 ** 60)
        self.assertEqual([fog.together([]), fog.table([])], [[""], [[""]] * 61])

    def test_wrong_cells(self):
        fog = Fog(wide_band())
        for call in (fog.table, fog.together):
            for value in any_values() + [fog, "abc", {"a": 1}]:
                if not isinstance(value, (list, tuple)):
                    check_raises(self, BadCells, {"at": -1}, call, value)
            check_raises(self, BadCells, {"at": -1}, call, ["a", "b", "c", "d"])
            check_raises(self, BadCells, {"at": -1}, call, [None] * 4)
            self.assertEqual(len(call(["d", "b", "c"])), 1)
            for value in any_values() + [fog, "e", "A", ["a"]]:
                if value != "a":
                    check_raises(self, UnknownCell, {"name": value}, call, ["b", value, "b"])
            check_raises(self, UnknownCell, {"name": "a"}, call, ["a", "a", None])

    def test_possible_of_wrong_cells(self):
        fog = example()
        for value in any_values() + [fog, "c", "ab", ["a"], ("a",)]:
            if value != "a":
                check_raises(self, UnknownCell, {"name": value}, fog.possible, value)
        self.assertEqual([fog.possible(cell="a"), fog.possible("b")], ["01", ".1"])


class SayingTest(unittest.TestCase):
    def test_against_all_histories(self):
        for fog in some_fogs(430, 40):
            for saying in all_sayings(fog.band):
                self.check_saying(fog, saying)

    def check_saying(self, fog, saying):
        found = fitting(fog, saying)
        self.assertTrue(same(fog.how_many(saying), len(found)))
        left = [[choice for choice in choices if any(rows[at] == choice for rows in found)]
                for at, choices in enumerate(fog.layers())]
        self.assertTrue(same(fog.left(saying), left))
        self.assertTrue(same(list(fog.histories(saying)), found))
        history = fog.history(saying)
        self.assertTrue(history in found if found else history is None)
        self.assertEqual(fog.history(saying), history)

    def test_the_order_of_keys_means_nothing(self):
        fog = example()
        self.assertEqual(fog.left({"b": "1", "a": "0"}), fog.left({"a": "0", "b": "1"}))
        self.assertEqual(list(fog.histories(saying={"b": "1", "a": "0"})), [[".1", "0."]])
        self.assertEqual(fog.history(saying={"b": "1", "a": "0"}), [".1", "0."])
        self.assertEqual([fog.how_many(saying={}), fog.left(saying={})], [4, LAYERS])

    def test_the_passed_dict_stays(self):
        saying = {"b": "1", "a": "0"}
        fog = example()
        fog.how_many(saying), fog.left(saying), fog.history(saying), list(fog.histories(saying))
        self.assertTrue(same(saying, {"b": "1", "a": "0"}))

    def test_the_order_of_histories_is_that_of_choices(self):
        fog = Fog(band_of_8(), [["11", ".."], ["0.", "..", ".1"]])
        self.assertEqual(list(fog.histories({})), [["11", "0."], ["11", ".."], ["11", ".1"],
                                                   ["..", "0."], ["..", ".."], ["..", ".1"]])

    def test_great_fogs_of_which_few_histories_fit(self):
        band = wide_band()
        telling = [row for row in band.rows() if row[0] == "1"][:7]
        fog = Fog(band, [[".0..", *telling]] * 60)
        self.assertEqual(fog.how_many({"a": "."}), 1)
        self.assertEqual(list(fog.histories({"a": "."})), [[".0.."] * 60])
        self.assertEqual(fog.history({"a": "."}), [".0.."] * 60)
        self.assertEqual(fog.left({"a": "."}), [[".0.."]] * 60)
        self.assertEqual(fog.how_many({"a": "0"}), 0)
        self.assertEqual([fog.history({"a": "0"}), list(fog.histories({"a": "0"}))], [None, []])
        self.assertEqual(fog.left({"a": "0"}), [[]] * 60)
        self.assertEqual(fog.how_many({"a": "1"}), 8 ** 60 - 1)

    def fog_of_5001(self):
        """5001 histories with the sign 1 at the first cell: 5000 by the newest layer, and one by the oldest one."""
        band = wide_band()
        rows = [row for row in band.rows() if row[0] == "0"]
        layers = [["1...", *rows[:7]], *[[".0..", *rows[at:at + 4]] for at in range(4)], ["1...", "...."]]
        return Fog(band, layers)

    def test_5000_and_5001_histories(self):
        fog = self.fog_of_5001()
        self.assertEqual(fog.how_many({"a": "1"}), 5001)
        told = fog.histories({"a": "1"})
        check_raises(self, TooMany, {"most": 5000}, next, told)
        check_raises(self, TooMany, {"most": 5000}, list, fog.histories({}))
        fog.narrow(6, ["1..."])
        found = list(fog.histories({"a": "1"}))
        self.assertEqual([len(found), found], [5000, [list(rows) for rows in itertools.product(*fog.layers())]])

    def test_wrong_sayings(self):
        fog = Fog(wide_band(), [["0...", ".1.."]])
        values = [value for value in any_values() if value != {}]
        values += [fog, [("a", "0")], {"a": "0", "b": "0", "c": "0", "d": "0"}, {"e": "0"}, {"a": "2"}, {"d": "1"},
                   {"a": "0", "b": 0}, {"a": ""}, {"a": "01"}, {"a": True}, {"a": None}, {"a": "+"}, {1: "0"},
                   {("a",): "0"}, {None: "."}, {"a": ["0"]}, {"a": "0", "": "."}, {"A": "0"}, {"b": ".."}]
        for value in values:
            for call in (fog.how_many, fog.left, fog.history):
                check_raises(self, BadSaying, {}, call, value)
            check_raises(self, BadSaying, {}, lambda: next(fog.histories(value)))
            fog.histories(value)
        self.assertEqual(fog.how_many({"a": "0", "b": ".", "d": "."}), 1)

    def test_what_was_told_stays(self):
        fog = example()
        told = [fog.table(["a"]), fog.left({}), fog.history({"b": "."}), list(fog.histories({}))]
        begun = fog.histories({})
        first = next(begun)
        fog.narrow(1, [".1"])
        fog.tell(["11"])
        self.assertEqual(told[:3], [[["."], ["0", "1"], ["0", "1"]], LAYERS, ["0.", "0."]])
        self.assertEqual([first, *begun], told[3])


class OtherFogTest(unittest.TestCase, StateCheck):
    def test_stream(self):
        fog = Fog(band_of_8(), [["0."], ["11"], [".."]])
        self.assertEqual(fog.stream(), Stream(band_of_8(), ["0.", "11", ".."]))
        self.assertEqual(Fog(band_of_8()).stream(), Stream(band_of_8()))
        check_raises(self, BadLayer, {"at": 0}, example().stream)
        check_raises(self, BadLayer, {"at": 1}, Fog(band_of_8(), [["0."], [".1", "0."], ["..", "0."]]).stream)
        fog.stream().tell("0.")
        self.check_state(fog, [["0."], ["11"], [".."]])

    def test_fog_of(self):
        stream = Stream(band_of_8(), ["0.", "11", ".."])
        self.check_state(fog_of(stream), [["0."], ["11"], [".."]])
        self.check_state(fog_of(stream=Stream(band_of_8())), [])
        self.assertEqual(fog_of(stream).stream(), stream)
        self.assertEqual(len(fog_of(Stream(band_of_8(), ["0."] * 60))), 60)
        check_raises(self, TooMany, {"most": 60}, fog_of, Stream(band_of_8(), ["0."] * 61))
        fog_of(stream).take(1)
        self.assertEqual(len(stream), 3)

    def test_onto(self):
        fog = Fog(band_of_8(), [["01", "..", "0.", "11"], [".1", "11"]])
        self.check_state(fog.onto(["a"]), [["0", ".", "1"], [".", "1"]])
        self.check_state(fog.onto(("b",)), [["1", "."], ["1"]])
        self.check_state(fog.onto(cells=["b", "a"]), fog.layers())
        self.check_state(Fog(band_of_8()).onto(["b"]), [])
        self.assertEqual(fog.onto(["b"]).band, band_of_8().onto(["b"]))

    def test_onto_has_the_same_fillings(self):
        source = random.Random(440)
        for fog in some_fogs(441, 40):
            names = fog.band.names()
            chosen = source.sample(names, source.randint(1, min(3, len(names))))
            self.assertEqual(fog.onto(chosen).table(chosen), fog.table(chosen))

    def test_led_apart(self):
        fog = example()
        onto, twin = fog.onto(["a"]), fog.twin()
        fog.take(1)
        self.check_state(onto, [["0", "."], ["1", "0"]])
        self.check_state(twin, LAYERS)
        onto.take(1)
        twin.narrow(2, ["0."])
        self.check_state(fog, LAYERS[1:])

    def test_onto_wrong_cells(self):
        fog = example()
        for value in any_values() + [fog, "ab"]:
            if not isinstance(value, (list, tuple)) or len(value) == 0:
                check_raises(self, BadCells, {"at": -1}, fog.onto, value)
        for value in any_values() + [fog]:
            if value != "a":
                check_raises(self, UnknownCell, {"name": value}, fog.onto, ["b", value, "x"])

    def test_equal(self):
        self.assertTrue(example() == example())
        self.assertFalse(example() != example())
        self.assertTrue(example() != Fog(band_of_8(), LAYERS[::-1]))
        self.assertTrue(example() != Fog(band_of_8(), [[".1", "0."], ["11", "0."]]))
        other = Band([("a", 2), ("b", 2)], [".1", "0.", "11"])
        self.assertTrue(example() != Fog(other, LAYERS))
        self.assertTrue(Fog(band_of_8()) != Fog(other))
        for value in any_values() + [band_of_8(), LAYERS, Stream(band_of_8())]:
            self.assertIs(example() == value, False)
            self.assertIs(value == example(), False)

    def test_not_equal_to_a_stream(self):
        stream = Stream(band_of_8(), ["0."])
        self.assertIs(fog_of(stream) == stream, False)

    def test_singles(self):
        cells, seeds = singles(12, 1)
        fog = Fog(Band([(name, 1) for name, _ in cells[:9]], [seed[:9] for seed in seeds[:9]]),
                  [["0" + "." * 8, "." * 8 + "0"]] * 3)
        self.assertEqual(fog.sure(), "?" + "." * 7 + "?")


if __name__ == "__main__":
    unittest.main()
