"""Promise [2] over the whole program: equal calls return equal results, arguments stay, what is returned is new, and
arguments may be passed by place and by name."""

import copy
import importlib
import inspect
import types
import unittest

from helpers import any_values, error_of, same, values_of
from newesttells import (coming, counts, drawing, families, fronts, lines, lists, lots, lumps, maps, pasts, piles,
                         ratios, rows, tapes, webs, windows, words, worths)
from newesttells.bands import Band
from newesttells.bench import Bench, replayed
from newesttells.benchtexts import read_bench
from newesttells.blocks import Block
from newesttells.books import Book
from newesttells.fogs import Fog
from newesttells.maps import BandMap, onto_map
from newesttells.powers import Powers
from newesttells.streams import Stream

CELLS, SEEDS = [("a", 2), ("b", 2)], ["0.", ".1", "11"]
PAPER = [("row", "00"), ("take", "0."), ("bar", ".1", "b"), ("bar", "11", "b"), ("barred",)]
TRIANGLE = [(1, 0, 0), (0, 1, 0), (1, 1, 1)]
BAND_DEED = ("band", "k", CELLS, SEEDS)
TEXT = "cell a 2\ncell b 2\nseed 0.\nseed .1\nseed 11\n"


def band():
    return Band(list(CELLS), list(SEEDS))


def book():
    return Book(band(), {"11": 2, "0.": 1, ".1": 1})


def stream():
    return Stream(band(), ["0.", "11", ".1", ".."])


def fog():
    return Fog(band(), [["0.", ".1"], ["11", "0."], ["01"]])


def powers():
    return Powers([((1, 2), (1, 3)), ((-1, 1), (1, 4))])


def bench():
    made = Bench()
    made.do(copy.deepcopy(BAND_DEED), ("stream", "s", "k"))
    made.do(("tell", "s", "0."), ("tell", "s", "11"))
    made.do(("tell", "s", ".1"))
    made.undo()
    made.say("standing s")
    return made


OBJECTS = {"Band": band, "Block": lambda: Block(band(), ["0.", "11", ".1"]), "Stream": stream, "Fog": fog,
           "Powers": powers, "Book": book, "BandMap": lambda: onto_map(band(), ["b"]), "Bench": bench}


def function_calls():
    """Triples of a module, a function of the interface and arguments."""
    plane, parting, question = list(TRIANGLE), [["11"], ["01"]], {"11": 5, "01": -2}
    pictures, pairs = {"11": "1", ".1": ".", "0.": "0"}, [("01", "01")]
    one = Band([("x", 2)], ["0", "1"])
    return [
        ("words", "is_name", ["abc"]), ("words", "is_number", [3, 1, 4]), ("words", "is_ratio", [(1, 2)]),
        ("ratios", "ratio", [6, -4]), ("ratios", "plus", [(1, 2), (1, 3)]), ("ratios", "minus", [(1, 2), (1, 3)]),
        ("ratios", "times", [(1, 2), (2, 3)]), ("ratios", "divided", [(1, 2), (1, 3)]),
        ("ratios", "raised", [(2, 3), 5]),
        ("ratios", "less", [(1, 3), (1, 2)]), ("ratios", "total", [[(1, 2), (1, 3)]]),
        ("rows", "check_cells", [list(CELLS)]), ("rows", "is_row", [list(CELLS), "0."]),
        ("rows", "is_lot", [list(CELLS), "+."]), ("rows", "over", ["1..", "02."]), ("rows", "laid", [["0.", ".1"]]),
        ("rows", "lot_of", ["0."]), ("rows", "blank", [3]), ("rows", "within", ["+.", "++"]),
        ("rows", "union", ["+.", ".+"]), ("rows", "agree", ["0.", "01"]), ("rows", "cut", ["01.", [2, 0, 0]]),
        ("rows", "ordered_lots", [["++", "..", ".+", "+.", "++"]]),
        ("coming", "come", [list(CELLS), list(SEEDS), "00"]), ("coming", "told_lot", [list(CELLS), list(SEEDS), "00"]),
        ("coming", "is_made", [list(CELLS), list(SEEDS), "01"]),
        ("coming", "look", [list(CELLS), list(SEEDS), list(PAPER)]),
        ("coming", "first_difference", [list(CELLS), list(SEEDS), ["01", "00"]]),
        ("families", "first_break", [["0.", ".1"]]),
        ("families", "band_of_rows", [list(CELLS), ["11", "01", "0.", ".1"]]),
        ("families", "fewest_seeds", [band()]), ("families", "seed_classes", [band(), "++"]),
        ("lots", "rows_above", [band(), ".1"]), ("lots", "lying_counts", [band(), "+."]),
        ("lots", "signed_counts", [band()]), ("lots", "plain_counts", [band()]),
        ("windows", "standing_counts", [stream()]), ("windows", "least_windows", [stream(), "++"]),
        ("windows", "struck_cells", [stream(), [3, 2]]),
        ("pasts", "seen", [stream(), "01"], {"behind": 1}), ("pasts", "shows_until", [stream(), "01"], {"behind": 1}),
        ("pasts", "latest_idle", [stream(), "01"]), ("pasts", "exchange_cell", [stream(), 1]),
        ("fogs", "fog_of", [stream()]),
        ("counts", "count_leaving", [band(), "01"], {"seeds": 3}),
        ("counts", "count_with_tellers", [band(), "01"], {"seeds": 3, "tellers": 2}),
        ("counts", "number_of", [band(), ["0.", "11", ".1"]]), ("counts", "numbered", [band(), "01", 1], {"seeds": 3}),
        ("counts", "fewest_deeds", [band(), "0.", "11"]), ("books", "even_book", [band()]),
        ("drawing", "steady_shares", [book()]), ("drawing", "forward_shares", [book()]),
        ("drawing", "teller_lists", [book(), "11"]), ("drawing", "product_of", [book(), [".1", "11"]]),
        ("drawing", "visits", [book(), "0."]), ("drawing", "favour", [book()]), ("drawing", "first_tellers", [book()]),
        ("tapes", "deed_of", [book(), 3]), ("tapes", "draw", [book(), [0, 1, 2]], {"forward": True}),
        ("tapes", "count_tapes", [book(), "11"], {"throws": 3, "forward": False}),
        ("tapes", "tapes", [book()], {"throws": 3}), ("tapes", "deadline", [book(), 3]),
        ("worths", "trace", [book()]), ("worths", "worths", [book()]), ("worths", "pieces", [book(), question]),
        ("worths", "mean_powers", [book(), question, "11"]), ("worths", "steady_mean", [book(), question]),
        ("piles", "check_things", ["bac"]), ("piles", "pair_cells", ["bac"]), ("piles", "piles_band", ["bac"]),
        ("piles", "piles_row", ["bac", ["c", "ab"]]), ("piles", "piles_of", ["bac", "011"]),
        ("fronts", "fronts_band", ["bac"]), ("fronts", "front_row", ["bac", "c"]),
        ("fronts", "front_of", ["bac", ".11"]),
        ("lists", "lists_band", ["bac"]), ("lists", "list_row", ["bac", "c"]), ("lists", "list_of", ["bac", "..0.11"]),
        ("webs", "check_web", ["abc", ["ab", "bc"]]), ("webs", "web_band", ["abc", ["ab", "bc"]]),
        ("webs", "web_row", ["abc", ["ab", "bc"], [1, 2, 2]]), ("webs", "heights_of", ["abc", ["ab", "bc"], "0."]),
        ("webs", "ring_of", ["abc", ["ab", "bc", "ca"], "000"]), ("webs", "count_directions", ["abc", ["ab", "bc"]]),
        ("lines", "check_lines", [plane]), ("lines", "lines_band", [plane]),
        ("lines", "line_row", [plane, ((1, 2), (0, 1))]), ("lines", "point_of", [plane, "110"]),
        ("lines", "parts_of_plane", [plane]), ("lines", "bounded_lands", [plane]),
        ("lumps", "check_lumps", [band(), parting]), ("lumps", "lumps_break", [band(), parting]),
        ("lumps", "least_lumps", [band(), pairs]), ("lumps", "lump_of", [parting, "01"]),
        ("lumps", "lump_after", [book(), parting, 1, 3]),
        ("maps", "map_break", [band(), one, {**pictures, ".1": "1"}]), ("maps", "onto_map", [band(), ["b", "a"]]),
        ("bench", "replayed", [[(copy.deepcopy(BAND_DEED), ("stream", "s", "k"))]]),
        ("benchtexts", "read_bench", ["band k\n" + TEXT + "stream s k\nmoment 11\n"]),
        ("bands", "Band", [list(CELLS), list(SEEDS)], {"most": 5}), ("blocks", "Block", [band(), ["0.", "11"]]),
        ("streams", "Stream", [band(), ["0.", "11"]]), ("fogs", "Fog", [band(), [["0.", ".1"], ["11"]]]),
        ("powers", "Powers", [[((1, 2), (1, 3))]]), ("books", "Book", [band(), {"11": 4, "0.": 2}]),
        ("maps", "BandMap", [band(), one, pictures]), ("bench", "Bench", []),
    ]


def method_calls():
    """Triples of a class, a method of the interface and arguments."""
    return [
        ("Band", "cells", []), ("Band", "seeds", []), ("Band", "names", []), ("Band", "rows", []),
        ("Band", "full_rows", []),
        ("Band", "lots", []), ("Band", "blank_row", []), ("Band", "come", ["00"], {"seeds": ["00", "1."]}),
        ("Band", "come", ["00"], {"seeds": None}), ("Band", "made_of", ["01"]), ("Band", "check_row", ["01"]),
        ("Band", "with_seed", ["00"]), ("Band", "without_seed", ["11"]), ("Band", "inside", ["+."]),
        ("Band", "onto", [["b"]]), ("Band", "above", [".1"]), ("Band", "same_rows", [band()]), ("Band", "text", []),
        ("Band", "read", [TEXT]), ("Block", "tellers", []),
        ("Stream", "rows", []), ("Stream", "change", [1, "11"]), ("Stream", "tell", ["0.", "11"]),
        ("Stream", "put", ["0."], {"behind": 1}), ("Stream", "take", [2]), ("Stream", "exchange", [1]),
        ("Stream", "strike", [[3, 1]]), ("Stream", "window", [], {"start": 2, "end": 3}),
        ("Stream", "tellers", [], {"start": 1, "end": None}), ("Stream", "end_of", [1]), ("Stream", "ends", []),
        ("Stream", "block", []), ("Stream", "onto", [["b"]]), ("Stream", "twin", []),
        ("Fog", "layers", []), ("Fog", "tell", [["0.", "11"]]), ("Fog", "put", [["0."]], {"behind": 0}),
        ("Fog", "take", [1]), ("Fog", "narrow", [1, [".1"]]), ("Fog", "table", [["b", "a"]]),
        ("Fog", "together", [["b", "a"]]), ("Fog", "possible", ["a"]), ("Fog", "sure", []),
        ("Fog", "how_many", [{"a": "0"}]),
        ("Fog", "left", [{"a": "0"}]), ("Fog", "history", [{"a": "0"}]), ("Fog", "histories", [{"a": "0"}]),
        ("Fog", "onto", [["b"]]), ("Fog", "twin", []),
        ("Powers", "parts", []), ("Powers", "value_at", [3]), ("Powers", "sum_of_all", []),
        ("Book", "weights", []), ("Book", "deeds", []), ("Book", "share", ["11"]), ("Book", "share_within", ["+."]),
        ("Book", "untold", []), ("Book", "powers", ["11"]), ("Book", "after", [2]), ("Book", "all_told", []),
        ("Book", "mean_told", []), ("Book", "least_told", [(2, 3)]), ("Book", "and_then", [book()]),
        ("Book", "mixed", [book()], {"mine": 2, "theirs": 3}), ("Book", "onto", [["a"]]),
        ("Book", "distance", ["01", "11", 2]), ("Book", "least_distance", ["01", "11", 2]),
        ("Book", "most_distance", ["01", "11", 2]),
        ("BandMap", "pictures", []), ("BandMap", "picture", ["11"]), ("BandMap", "picture_lot", ["++"]),
        ("BandMap", "picture_stream", [stream()]),
        ("BandMap", "followed_by", [BandMap(band().onto(["b"]), band(), {"1": "11"})]),
        ("Bench", "do", [("tell", "s", "01"), ("drop", "s")]), ("Bench", "undo", []), ("Bench", "redo", []),
        ("Bench", "history", []), ("Bench", "journal", []), ("Bench", "labels", []), ("Bench", "band_at", ["k"]),
        ("Bench", "stream_at", ["s"]), ("Bench", "tried", [("tell", "s", "01"), ("drop", "s")]), ("Bench", "text", []),
        ("Bench", "say", ["rows k"]), ("Bench", "log", []), ("Bench", "twin", []),
    ]


CHANGING = {("Stream", name) for name in ("change", "tell", "put", "take", "exchange", "strike")}
CHANGING |= {("Fog", name) for name in ("tell", "put", "take", "narrow")}
CHANGING |= {("Bench", name) for name in ("do", "undo", "redo", "say")}


def open_calls():
    """Calls with one argument that may be any value, with an error for each wrong one."""
    calls = {}

    def add(name, *made):
        for at, call in enumerate(made):
            calls[f"{name} {at}"] = call

    add("ratios", lambda v: ratios.divided((1, 2), v))
    add("cells", rows.check_cells, lambda v: rows.check_cells([v]), lambda v: rows.check_cells([("a", v)]),
        lambda v: rows.check_cells([("a", 2), (v, 2)]))
    add("coming", lambda v: coming.come(CELLS, SEEDS, v), lambda v: coming.told_lot(CELLS, SEEDS, v))
    add("bands", lambda v: Band(v, None), lambda v: Band(CELLS, v), lambda v: Band(CELLS, [*SEEDS, v]),
        lambda v: Band(CELLS, SEEDS, most=v), lambda v: band().come(v), lambda v: band().made_of(v),
        lambda v: band().check_row(v), lambda v: band().with_seed(v), lambda v: band().without_seed(v),
        lambda v: band().inside(v), lambda v: band().onto(v), lambda v: band().onto(["a", v]),
        lambda v: band().above(v),
        Band.read)
    add("families", lambda v: families.band_of_rows(v, []), lambda v: families.band_of_rows(CELLS, ["01", v]),
        lambda v: families.seed_classes(band(), v))
    add("lots", lambda v: lots.rows_above(band(), v), lambda v: lots.lying_counts(band(), v))
    add("blocks", lambda v: Block(band(), ["0.", v]), lambda v: Block(band(), ["0."]) * v,
        lambda v: v * Block(band(), ["0."]))
    add("streams", lambda v: Stream(band(), ["0.", v]), lambda v: stream()[v], lambda v: stream().change(v, None),
        lambda v: stream().change(1, v), lambda v: stream().tell("0.", v), lambda v: stream().put(v, behind=None),
        lambda v: stream().put("0.", behind=v), lambda v: stream().take(v), lambda v: stream().exchange(v),
        lambda v: stream().strike(v), lambda v: stream().strike([1, v]), lambda v: stream().window(start=v),
        lambda v: stream().window(end=v), lambda v: stream().tellers(start=v, end=None), lambda v: stream().end_of(v),
        lambda v: stream().tellers(start=2, end=v), lambda v: stream().onto(v))
    add("windows", lambda v: windows.least_windows(stream(), v), lambda v: windows.struck_cells(stream(), v))
    add("pasts", lambda v: pasts.seen(stream(), v, behind=v), lambda v: pasts.seen(stream(), "0.", behind=v),
        lambda v: pasts.shows_until(stream(), v, behind=0), lambda v: pasts.shows_until(stream(), "0.", behind=v),
        lambda v: pasts.latest_idle(stream(), v), lambda v: pasts.exchange_cell(stream(), v))
    add("fogs", lambda v: Fog(band(), [["0."], v]), lambda v: fog().tell(v), lambda v: fog().put(v, behind=v),
        lambda v: fog().put(["0."], behind=v), lambda v: fog().take(v), lambda v: fog().narrow(v, v),
        lambda v: fog().narrow(1, v), lambda v: fog().narrow(1, ["0.", v]), lambda v: fog().table(v),
        lambda v: fog().table(["a", v]), lambda v: fog().together(v), lambda v: fog().possible(v),
        lambda v: fog().how_many(v), lambda v: fog().left({"a": v}), lambda v: fog().history(v),
        lambda v: fog().histories(v), lambda v: fog().onto(v))
    add("counts", lambda v: counts.count_leaving(band(), v, seeds=v),
        lambda v: counts.count_leaving(band(), "01", seeds=v),
        lambda v: counts.count_with_tellers(band(), v, seeds=v, tellers=v),
        lambda v: counts.count_with_tellers(band(), "01", seeds=v, tellers=v),
        lambda v: counts.count_with_tellers(band(), "01", seeds=3, tellers=v),
        lambda v: counts.number_of(band(), ["0.", v]), lambda v: counts.numbered(band(), v, v, seeds=v),
        lambda v: counts.numbered(band(), "01", v, seeds=3), lambda v: counts.fewest_deeds(band(), v, v),
        lambda v: counts.fewest_deeds(band(), "0.", v))
    add("books", lambda v: Book(band(), v), lambda v: Book(band(), {"0.": v}), lambda v: powers().value_at(v),
        lambda v: powers()(v), lambda v: book().share(v), lambda v: book().share_within(v), lambda v: book().powers(v),
        lambda v: book().after(v), lambda v: book().least_told(v), lambda v: book().mixed(book(), mine=v, theirs=v),
        lambda v: book().mixed(book(), theirs=v), lambda v: book().onto(v), lambda v: book().distance(v, v, v),
        lambda v: book().distance("0.", v, v), lambda v: book().distance("0.", "..", v),
        lambda v: book().least_distance("0.", "..", v), lambda v: book().most_distance("0.", v, 2))
    add("drawing", lambda v: drawing.teller_lists(book(), v), lambda v: drawing.product_of(book(), [v]),
        lambda v: drawing.visits(book(), v), lambda v: tapes.deed_of(book(), v), lambda v: tapes.draw(book(), v),
        lambda v: tapes.draw(book(), [1, v]), lambda v: tapes.count_tapes(book(), v, throws=v),
        lambda v: tapes.count_tapes(book(), "01", throws=v), lambda v: tapes.tapes(book(), throws=v),
        lambda v: tapes.deadline(book(), v))
    add("worths", lambda v: worths.pieces(book(), v), lambda v: worths.pieces(book(), {"01": 1, "11": v}),
        lambda v: worths.mean_powers(book(), v, v), lambda v: worths.mean_powers(book(), {"01": 1, "11": 2}, v),
        lambda v: worths.steady_mean(book(), v))
    for module, names in ((piles, ("piles_row", "piles_of")), (fronts, ("front_row", "front_of")),
                          (lists, ("list_row", "list_of"))):
        for name in names:
            function = getattr(module, name)
            add(name, lambda v, function=function: function(v, v), lambda v, function=function: function("bac", v))
    add("things", piles.check_things, piles.pair_cells, piles.piles_band, fronts.fronts_band, lists.lists_band,
        lambda v: piles.piles_row("bac", ["b", v]))
    ties = ["ab", "bc", "ca"]
    add("webs", lambda v: webs.check_web(v, v), lambda v: webs.check_web("abc", v),
        lambda v: webs.web_band("abc", ["ab", v]),
        lambda v: webs.web_row("abc", ties, v), lambda v: webs.web_row("abc", ties, [1, 2, v]),
        lambda v: webs.heights_of("abc", ties, v), lambda v: webs.ring_of("abc", ties, v),
        lambda v: webs.count_directions("abc", v))
    add("lines", lines.check_lines, lambda v: lines.lines_band([(1, 0, 0), v]),
        lambda v: lines.line_row([(1, 2, v)], v),
        lambda v: lines.line_row(TRIANGLE, v), lambda v: lines.line_row(TRIANGLE, ((0, 1), v)),
        lambda v: lines.point_of(TRIANGLE, v), lines.parts_of_plane, lines.bounded_lands)
    add("lumps", lambda v: lumps.check_lumps(band(), v), lambda v: lumps.check_lumps(band(), [["01", "11"], v]),
        lambda v: lumps.check_lumps(band(), [["01", v]]), lambda v: lumps.least_lumps(band(), v),
        lambda v: lumps.least_lumps(band(), [v]), lambda v: lumps.least_lumps(band(), [("01", v)]),
        lambda v: lumps.lump_after(book(), v, v, v), lambda v: lumps.lump_after(book(), [["01", "11"]], v, v),
        lambda v: lumps.lump_after(book(), [["01", "11"]], 0, v))
    one, images = Band([("x", 2)], ["0", "1"]), onto_map(band(), ["b"])
    add("maps", lambda v: maps.map_break(band(), one, v), lambda v: BandMap(band(), one, v),
        lambda v: BandMap(band(), one, {"0.": ".", ".1": ".", "11": v}), images, images.picture, images.picture_lot,
        lambda v: onto_map(band(), v))
    add("bench", lambda v: bench().do(v), lambda v: bench().tried(v), lambda v: bench().do(("band", v, v, v)),
        lambda v: bench().do(("band", "q", v, v)), lambda v: bench().do(("stream", "q", v)),
        lambda v: bench().do(("tell", v, v)), lambda v: bench().do(("tell", "s", v)),
        lambda v: bench().do(("put", "s", "0.", v)), lambda v: bench().do(("take", "s", v)),
        lambda v: bench().do(("exchange", "s", v)), lambda v: bench().do(("set", "s", v, v)),
        lambda v: bench().do(("drop", v)), lambda v: bench().do((v, "s")), lambda v: bench().band_at(v),
        lambda v: bench().stream_at(v), lambda v: replayed([(v,)]), read_bench)
    return calls


def told(value):
    """The value, or the list of the items of a generator."""
    return list(value) if isinstance(value, types.GeneratorType) else value


def spoil(value):
    """Changes all lists and dicts within a value."""
    if isinstance(value, (list, tuple)):
        for item in value:
            spoil(item)
    if isinstance(value, dict):
        for item in value.values():
            spoil(item)
        value["spoilt"] = 0
    if isinstance(value, list):
        value.append("spoilt")


def split(call):
    """A call as (home, name, places, names)."""
    return (*call, {})[:4]


class WholeTest(unittest.TestCase):
    def functions(self):
        for call in function_calls():
            module, name, places, names = split(call)
            yield (module, name), getattr(importlib.import_module("newesttells." + module), name), places, names

    def check_call(self, key, function, places, names):
        before = copy.deepcopy((places, names))
        first = told(function(*places, **names))
        kept = copy.deepcopy(first)
        spoil(first)
        self.assertTrue(same([*places], [*before[0]]) and names == before[1], key)
        self.assertTrue(same(told(function(*places, **names)), kept), key)
        parameters = list(inspect.signature(function).parameters.values())
        if not any(parameter.kind == parameter.VAR_POSITIONAL for parameter in parameters):
            by_name = dict(zip([parameter.name for parameter in parameters], places))
            self.assertTrue(same(told(function(**by_name, **names)), kept), key)
            left_out = {parameter.name: parameter.default for parameter in parameters
                        if parameter.default is not parameter.empty and parameter.name not in {**by_name, **names}}
            self.assertTrue(same(told(function(**by_name, **names, **left_out)), kept), key)
        return kept

    def test_functions_and_constructors(self):
        for key, function, places, names in self.functions():
            self.check_call(key, function, places, names)

    def test_defaults(self):
        """A parameter with a default may be omitted; passing the default has the same effect."""
        pairs = [(lambda **named: Band(CELLS, SEEDS, **named), {"most": 800}),
                 (lambda **named: Stream(band(), **named), {"rows": ()}),
                 (lambda **named: Fog(band(), **named), {"layers": ()}),
                 (lambda **named: Powers(**named), {"parts": ()}),
                 (lambda **named: band().come("00", **named), {"seeds": None}),
                 (lambda **named: stream().window(**named), {"start": 1, "end": None}),
                 (lambda **named: stream().tellers(**named), {"start": 1, "end": None}),
                 (lambda **named: book().mixed(book(), **named), {"mine": 1, "theirs": 1})]
        for call, defaults in pairs:
            self.assertTrue(same(call(), call(**defaults)))
            for name, value in defaults.items():
                self.assertTrue(same(call(), call(**{name: value})))

    def test_methods(self):
        reached = set()
        for call in method_calls():
            kind, name, places, names = split(call)
            reached.add((kind, name))
            if (kind, name) in CHANGING:
                self.check_changing(kind, name, places, names)
                continue
            one = OBJECTS[kind]()
            kept = self.check_call((kind, name), getattr(one, name), places, names)
            # Reading changes nothing, and equal objects tell the same.
            self.assertTrue(one == OBJECTS[kind]() and repr(one) == repr(OBJECTS[kind]()), (kind, name))
            self.assertTrue(same(told(getattr(OBJECTS[kind](), name)(*places, **names)), kept), (kind, name))
        self.assertEqual(CHANGING - reached, set())

    def check_changing(self, kind, name, places, names):
        one, other, third = OBJECTS[kind](), OBJECTS[kind](), OBJECTS[kind]()
        before = copy.deepcopy((places, names))
        kept = copy.deepcopy(getattr(one, name)(*places, **names))
        parameters = list(inspect.signature(getattr(other, name)).parameters.values())
        if not any(parameter.kind == parameter.VAR_POSITIONAL for parameter in parameters):
            by_name = dict(zip([parameter.name for parameter in parameters], places))
            self.assertTrue(same(getattr(other, name)(**by_name, **names), kept), (kind, name))
            self.assertEqual(one, other)
        # What is changed behind the call does not reach the object.
        mine = copy.deepcopy((places, names))
        spoil(getattr(third, name)(*mine[0], **mine[1]))
        spoil(mine)
        self.assertEqual(one, third, (kind, name))
        self.assertTrue(same(places, before[0]) and names == before[1], (kind, name))

    def test_keyword_only(self):
        for call in (lambda: Band(CELLS, SEEDS, 800), lambda: band().come("00", None), lambda: stream().put("0.", 1),
                     lambda: stream().window(1), lambda: stream().tellers(1, 2), lambda: fog().put(["0."], 0),
                     lambda: book().mixed(book(), 1)):
            with self.assertRaises(TypeError):
                call()
        for call in function_calls():
            module, name, places, names = split(call)
            function = getattr(importlib.import_module("newesttells." + module), name)
            if names:
                with self.assertRaises(TypeError):
                    told(function(*places, *names.values()))

    def test_equals_nothing_of_another_class(self):
        made = {name: make() for name, make in OBJECTS.items()}
        for name, one in made.items():
            self.assertTrue(one == OBJECTS[name]() and not one != OBJECTS[name]())
            for other in [*any_values(), *[other for key, other in made.items() if key != name]]:
                self.assertIs(one == other, False)
                self.assertIs(other == one, False)
                self.assertIs(one != other, True)

    def test_truth_and_length(self):
        empty = [Block(band(), []), Stream(band()), Fog(band()), Powers(), Bench()]
        self.assertTrue(all(bool(one) is True for one in empty))
        self.assertEqual([len(one) for one in empty[1:]], [0] * 4)

    def test_any_value(self):
        """An argument for whose wrong values an error or the answer False is listed may be any value."""
        objects = [make() for make in OBJECTS.values()]
        deep = [[[[[None]]]]], ((((("ab",),),),),), {"a": {"b": {"c": {"d": {"e": 1}}}}}, [{"0.": ("0.", [1])}]
        for name, call in open_calls().items():
            refused = 0
            for value in [*any_values(), *objects, *deep, 10 ** 31 - 1, [[]], [()], ((),), [{}], {(): ()}, "0" * 6000]:
                error = error_of(lambda: told(call(value)))
                if error is not None:
                    refused += 1
                    self.assertIn(type(error).__module__, ("newesttells.errors",), (name, value))
            self.assertGreater(refused, 30, name)

    def test_any_value_where_the_answer_is_false(self):
        objects = [make() for make in OBJECTS.values()]
        for value in [*any_values(), *objects, [[]], [()], {(): ()}, "0" * 6000, ("a", [1])]:
            for answer in (words.is_name(value), words.is_number(value, 0, 9), words.is_ratio(value),
                           rows.is_row(CELLS, value), rows.is_lot(CELLS, value), coming.is_made(CELLS, SEEDS, value),
                           value in band(), value in bench()):
                self.assertIn(answer, (True, False))
            self.assertIn(coming.look(CELLS, SEEDS, value), (0, None))
            self.assertEqual(coming.look(CELLS, SEEDS, [("row", "00"), ("take", value)]), 1 if value != "0." else 2)

    def test_objects_of_the_package_as_any_value(self):
        """Where an error or the answer False is listed, an object of the package is no wrong value among others."""
        for make in OBJECTS.values():
            value = make()
            for call in (lambda v: band().check_row(v), lambda v: stream().end_of(v), lambda v: book().after(v),
                         lambda v: Book(band(), v), lambda v: Band(v, SEEDS), lambda v: fog().how_many(v),
                         lambda v: bench().do(v), lambda v: bench().band_at(v), lambda v: Band.read(v)):
                error = error_of(call, value)
                self.assertEqual(type(error).__module__, "newesttells.errors")
                self.assertNotIn("code", values_of(error))
            self.assertIs(value in band(), False)
            self.assertIs(value in bench(), False)


if __name__ == "__main__":
    unittest.main()
