"""Promises [1] and [2] over the whole interface: names, places, parameters, defaults, and what the package imports."""

import ast
import importlib
import inspect
import os
import unittest

import newesttells

FUNCTIONS = {
    "words": ["is_name(value)", "is_number(value, least, most)", "is_ratio(value)"],
    "ratios": ["ratio(top, bottom=1)", "plus(one, other)", "minus(one, other)", "times(one, other)",
               "divided(one, other)", "raised(one, t)", "less(one, other)", "total(ratios)"],
    "rows": ["check_cells(cells)", "is_row(cells, value)", "is_lot(cells, value)", "over(newer, older)", "laid(rows)",
             "lot_of(row)", "blank(many)", "within(one, other)", "union(one, other)", "agree(one, other)",
             "cut(row, places)", "ordered_lots(lots)"],
    "coming": ["come(cells, seeds, row)", "told_lot(cells, seeds, row)", "is_made(cells, seeds, row)",
               "look(cells, seeds, paper)", "first_difference(cells, one, other)"],
    "bands": [],
    "families": ["first_break(rows)", "band_of_rows(cells, rows)", "fewest_seeds(band)", "seed_classes(band, lot)"],
    "lots": ["rows_above(band, row)", "lying_counts(band, lot)", "signed_counts(band)", "plain_counts(band)"],
    "blocks": [],
    "streams": [],
    "windows": ["standing_counts(stream)", "least_windows(stream, lot)", "struck_cells(stream, moments)"],
    "pasts": ["seen(stream, row, *, behind)", "shows_until(stream, row, *, behind)", "latest_idle(stream, row)",
              "exchange_cell(stream, moment)"],
    "fogs": ["fog_of(stream)"],
    "counts": ["count_leaving(band, row, *, seeds)", "count_with_tellers(band, row, *, seeds, tellers)",
               "number_of(band, stream)", "numbered(band, row, number, *, seeds)", "fewest_deeds(band, start, goal)"],
    "powers": [],
    "books": ["even_book(band)"],
    "drawing": ["steady_shares(book)", "forward_shares(book)", "teller_lists(book, row)", "product_of(book, deeds)",
                "visits(book, row)", "favour(book)", "first_tellers(book)"],
    "tapes": ["deed_of(book, throw)", "draw(book, tape, *, forward=False)",
              "count_tapes(book, row, *, throws, forward=False)", "tapes(book, *, throws)", "deadline(book, throws)"],
    "worths": ["trace(book)", "worths(book)", "pieces(book, question)", "mean_powers(book, question, row)",
               "steady_mean(book, question)"],
    "piles": ["check_things(things)", "pair_cells(things)", "piles_band(things)", "piles_row(things, piles)",
              "piles_of(things, row)"],
    "fronts": ["fronts_band(things)", "front_row(things, front)", "front_of(things, row)"],
    "lists": ["lists_band(things)", "list_row(things, used)", "list_of(things, row)"],
    "webs": ["check_web(places, ties)", "web_band(places, ties)", "web_row(places, ties, heights)",
             "heights_of(places, ties, row)", "ring_of(places, ties, row)", "count_directions(places, ties)"],
    "lines": ["check_lines(lines)", "lines_band(lines)", "line_row(lines, point)", "point_of(lines, row)",
              "parts_of_plane(lines)", "bounded_lands(lines)"],
    "lumps": ["check_lumps(band, lumps)", "lumps_break(band, lumps)", "least_lumps(band, pairs)", "lump_of(lumps, row)",
              "lump_after(book, lumps, lump, t)"],
    "maps": ["map_break(band, other, pictures)", "onto_map(band, cells)"],
    "bench": ["replayed(journal)"],
    "benchtexts": ["read_bench(text)"],
}
CLASSES = {
    ("bands", "Band(cells, seeds, *, most=800)"): [
        "cells()", "seeds()", "names()", "rows()", "full_rows()", "lots()", "blank_row()", "come(row, *, seeds=None)",
        "made_of(row)", "check_row(row)", "with_seed(seed)", "without_seed(seed)", "inside(lot)", "onto(cells)",
        "above(row)", "same_rows(other)", "text()", "size", "read", "__mul__", "__contains__", "__eq__", "__len__",
        "__repr__", "__str__"],
    ("blocks", "Block(band, rows)"): [
        "tellers()", "length", "standing", "__add__", "__mul__", "__rmul__", "__eq__", "__bool__", "__repr__"],
    ("streams", "Stream(band, rows=())"): [
        "rows()", "change(moment, row)", "tell(*rows)", "put(row, *, behind)", "take(moment)", "exchange(moment)",
        "strike(moments)", "window(*, start=1, end=None)", "tellers(*, start=1, end=None)", "end_of(moment)", "ends()",
        "block()", "onto(cells)", "twin()", "standing", "spare_count", "__getitem__", "__setitem__", "__iter__",
        "__add__", "__eq__", "__len__", "__bool__", "__repr__"],
    ("fogs", "Fog(band, layers=())"): [
        "layers()", "tell(choices)", "put(choices, *, behind)", "take(moment)", "narrow(moment, choices)",
        "table(cells)",
        "together(cells)", "possible(cell)", "sure()", "how_many(saying)", "left(saying)", "history(saying)",
        "histories(saying)", "stream()", "onto(cells)", "twin()", "__eq__", "__len__", "__bool__", "__repr__"],
    ("powers", "Powers(parts=())"): [
        "parts()", "value_at(t)", "sum_of_all()", "__call__", "__add__", "__sub__", "__mul__", "__rmul__", "__eq__",
        "__len__", "__bool__", "__repr__"],
    ("books", "Book(band, weights)"): [
        "weights()", "deeds()", "share(row)", "share_within(lot)", "untold()", "powers(row)", "after(t)", "all_told()",
        "mean_told()", "least_told(chance)", "and_then(other)", "mixed(other, *, mine=1, theirs=1)", "onto(cells)",
        "distance(one, other, t)", "least_distance(one, other, t)", "most_distance(one, other, t)", "faces", "__eq__",
        "__len__", "__repr__"],
    ("maps", "BandMap(band, other, pictures)"): [
        "pictures()", "picture(row)", "picture_lot(lot)", "picture_stream(stream)", "followed_by(map_on)", "__call__",
        "__eq__", "__repr__"],
    ("bench", "Bench()"): [
        "do(*deeds)", "undo()", "redo()", "history()", "journal()", "labels()", "band_at(label)", "stream_at(label)",
        "tried(*deeds)", "text()", "say(line)", "log()", "twin()", "busy", "__str__", "__call__", "__contains__",
        "__eq__", "__len__", "__bool__", "__repr__"],
}
PROPERTIES = {"size", "length", "standing", "spare_count", "faces", "busy"}
ROOT = os.path.dirname(os.path.abspath(newesttells.__file__))


def module_of(name):
    return importlib.import_module("newesttells." + name)


def written(name, parameters):
    """A signature as the document writes it."""
    return name + str(inspect.Signature(parameters))


class InterfaceTest(unittest.TestCase):
    def test_functions(self):
        for module, functions in FUNCTIONS.items():
            for line in functions:
                name = line.split("(")[0]
                function = getattr(module_of(module), name)
                self.assertTrue(inspect.isfunction(function), name)
                self.assertEqual(function.__module__, "newesttells." + module, name)
                self.assertEqual(written(name, inspect.signature(function).parameters.values()), line)

    def test_classes(self):
        for (module, line), members in CLASSES.items():
            name = line.split("(")[0]
            kind = getattr(module_of(module), name)
            self.assertEqual([kind.__module__, kind.__bases__], ["newesttells." + module, (object,)])
            self.assertEqual(written(name, inspect.signature(kind).parameters.values()), line)
            for member in members:
                self.check_member(kind, member)

    def check_member(self, kind, line):
        """Each member is defined in the class itself."""
        name = line.split("(")[0]
        self.assertIn(name, vars(kind), kind)
        found = vars(kind)[name]
        if name in PROPERTIES:
            self.assertIsInstance(found, property, name)
            self.assertIsNone(found.fset, name)
        elif name == "read":
            self.assertIsInstance(found, staticmethod)
            self.assertEqual(str(inspect.signature(kind.read)), "(text)")
        elif "(" in line:
            parameters = list(inspect.signature(found).parameters.values())[1:]
            self.assertEqual(written(name, parameters), line, kind)

    def test_calling_objects(self):
        for module, name, parameter in (("powers", "Powers", "t"), ("maps", "BandMap", "row"),
                                        ("bench", "Bench", "line")):
            call = vars(getattr(module_of(module), name))["__call__"]
            self.assertEqual(list(inspect.signature(call).parameters)[1:], [parameter])

    def test_constants(self):
        rows = module_of("rows")
        self.assertEqual([rows.MOST_ROWS, rows.MOST_SEEDS, rows.MOST_CELLS], [800, 30, 12])

    def test_generators(self):
        found = [module_of("fogs").Fog.histories, module_of("drawing").teller_lists, module_of("tapes").tapes]
        self.assertTrue(all(map(inspect.isgeneratorfunction, found)))

    def test_each_module_needs_only_those_above_it(self):
        order = ["errors", *FUNCTIONS]
        needs = {name[:-3]: needed_by(name) for name in sorted(os.listdir(ROOT)) if name.endswith(".py")}
        for at, name in enumerate(order):
            waiting, reached = [name], set()
            while waiting:
                one = waiting.pop()
                if one not in reached:
                    reached.add(one)
                    waiting.extend(needs[one])
            self.assertEqual([one for one in reached if one in order[at + 1:]], [], name)

    def test_no_clock_no_randomness_and_no_files(self):
        """Of other packages only a few functions over numbers are imported."""
        for name in sorted(os.listdir(ROOT)):
            if name.endswith(".py"):
                for node in ast.walk(tree_of(name)):
                    self.assertNotIsInstance(node, ast.Import, name)
                    if isinstance(node, ast.ImportFrom) and not node.module.startswith("newesttells."):
                        self.assertEqual([node.module, {alias.name for alias in node.names} - {"gcd", "lcm"}],
                                         ["math", set()], name)


def tree_of(name):
    with open(os.path.join(ROOT, name), encoding="utf-8") as file:
        return ast.parse(file.read())


def needed_by(name):
    return [node.module.split(".")[1] for node in ast.walk(tree_of(name))
            if isinstance(node, ast.ImportFrom) and node.module.startswith("newesttells.")]


if __name__ == "__main__":
    unittest.main()
