"""The interface under newesttells/rows.py; promises [3] (cells), [4] (rows, over) and [5] (lots)."""

import itertools
import unittest

from helpers import any_values, check_raises
from newesttells import rows
from newesttells.errors import BadCells
from newesttells.rows import (agree, blank, check_cells, cut, is_lot, is_row, laid, lot_of, ordered_lots, over, union,
                              within)

CELLS = [("a", 1), ("b", 2), ("c", 4)]


def rows_of(cells):
    return ["".join(signs) for signs in itertools.product(*["." + "0123"[:many] for _, many in cells])]


def lots_of(many):
    return ["".join(signs) for signs in itertools.product("+.", repeat=many)]


class CellsTest(unittest.TestCase):
    def test_constants(self):
        self.assertEqual((rows.MOST_ROWS, rows.MOST_SEEDS, rows.MOST_CELLS), (800, 30, 12))

    def test_right_cells(self):
        names = list("abcdefghijkl")
        for cells in ([("a", 1)], [("abcdef", 4)], (("a", 2), ("b", 3)), [(name, 4) for name in names], CELLS):
            self.assertIsNone(check_cells(cells))
        self.assertIsNone(check_cells(cells=CELLS))

    def test_no_list_of_cells(self):
        for value in any_values():
            if value not in ([("a", 2)], ) and not (isinstance(value, (list, tuple)) and 1 <= len(value) <= 12):
                check_raises(self, BadCells, {"at": -1}, check_cells, value)
        names = list("abcdefghijklm")
        check_raises(self, BadCells, {"at": -1}, check_cells, [(name, 1) for name in names])
        check_raises(self, BadCells, {"at": -1}, check_cells, ["wrong"] * 13)
        check_raises(self, BadCells, {"at": -1}, check_cells, [])
        check_raises(self, BadCells, {"at": -1}, check_cells, ())
        check_raises(self, BadCells, {"at": -1}, check_cells, {"a": 2})
        check_raises(self, BadCells, {"at": -1}, check_cells, "ab")

    def test_wrong_items(self):
        wrong = [("a", 0), ("a", 5), ("a", -1), ("a", True), ("a", "2"), ("a", None), ("", 2), ("abcdefg", 2), ("A", 2),
                 ("a1", 2), ["a", 2], ("a",), ("a", 2, 2), "a2", None, 2, {"a": 2}, (2, "a"), (["a"], 2), ("a", [2]),
                 ("a", (2,)), (None, None), (), True]
        for item in wrong:
            check_raises(self, BadCells, {"at": 0}, check_cells, [item])
            check_raises(self, BadCells, {"at": 1}, check_cells, [("x", 2), item, ("x", 2)])
        for value in any_values():
            if value not in [("a", 2)]:
                check_raises(self, BadCells, {"at": 2}, check_cells, (("x", 2), ("y", 2), value))

    def test_a_name_that_stands_ahead(self):
        check_raises(self, BadCells, {"at": 1}, check_cells, [("a", 2), ("a", 2)])
        check_raises(self, BadCells, {"at": 2}, check_cells, [("a", 2), ("b", 2), ("a", 3), ("a", 9)])
        check_raises(self, BadCells, {"at": 11}, check_cells, [(name, 1) for name in "abcdefghijka"])

    def test_the_first_wrong_item_counts(self):
        check_raises(self, BadCells, {"at": 1}, check_cells, [("a", 2), ("b", 0), ("a", 2)])
        check_raises(self, BadCells, {"at": 1}, check_cells, [("a", 2), ("a", 2), ("c", 0), None])


class RowsTest(unittest.TestCase):
    def test_is_row(self):
        for row in ("...", "0..", ".1.", "..3", "013", "000"):
            self.assertIs(is_row(CELLS, row), True, row)
        for row in ("", "..", "....", "1..", ".2.", "..4", "+..", "...\n", " ..", "a..", "-1.", "0 ."):
            self.assertIs(is_row(CELLS, row), False, row)

    def test_is_row_for_all_strings(self):
        right = rows_of(CELLS)
        for signs in itertools.product(".0123+4", repeat=3):
            self.assertIs(is_row(CELLS, "".join(signs)), "".join(signs) in right)

    def test_is_row_of_any_value(self):
        for value in any_values():
            self.assertIs(is_row([("a", 2), ("b", 1)], value), value in ("..", "0."), repr(value))
            self.assertIs(is_row([("a", 2)], value), value == ".", repr(value))
        self.assertIs(is_row(CELLS, [".", ".", "."]), False)
        self.assertIs(is_row(CELLS, (".", ".", ".")), False)
        self.assertIs(is_row([("a", 2)], 0), False)
        self.assertIs(is_row(tuple(CELLS), "0.3"), True)
        self.assertIs(is_row(cells=CELLS, value="0.3"), True)

    def test_is_lot(self):
        for lot in lots_of(3):
            self.assertIs(is_lot(CELLS, lot), True, lot)
        for lot in ("", "++", "++++", "0..", "+ .", "+++\n", "..-"):
            self.assertIs(is_lot(CELLS, lot), False, lot)
        self.assertIs(is_lot(cells=CELLS, value="+.+"), True)

    def test_is_lot_of_any_value(self):
        for value in any_values():
            self.assertIs(is_lot([("a", 2), ("b", 1)], value), value in ("..", "++"), repr(value))
        self.assertIs(is_lot(CELLS, ["+", ".", "+"]), False)

    def test_the_example_of_over(self):
        self.assertEqual(over("1..", "02."), "12.")
        self.assertEqual(over(newer="1..", older="02."), "12.")

    def test_over_sign_by_sign(self):
        for one in rows_of(CELLS):
            for other in rows_of(CELLS):
                right = "".join(x if x != "." else y for x, y in zip(one, other))
                self.assertEqual(over(one, other), right)

    def test_facts_of_over(self):
        some = rows_of([("a", 2), ("b", 2)])
        for x in some:
            self.assertEqual(over(x, x), x)
            for y in some:
                self.assertEqual(over(over(x, y), x), over(x, y))
                for z in some:
                    self.assertEqual(over(over(x, y), z), over(x, over(y, z)))

    def test_over_of_12_cells(self):
        self.assertEqual(over("0..........3", "123.........".replace("1", "2")), "023........3")
        self.assertEqual(over("0.", ".."), "0.")

    def test_laid(self):
        self.assertEqual(laid(["01.", ".10", "1..", "..1"]), "111")
        self.assertEqual(laid(["0.", ".1"]), "01")
        self.assertEqual(laid(["0..", ".1.", "..1", "1.0"]), "110")
        self.assertEqual(laid(["0."]), "0.")
        self.assertEqual(laid(["0.", "1."]), "1.")
        self.assertEqual(laid(("..", ".1", "..")), ".1")
        self.assertEqual(laid(rows=["1.", "00", "1."]), "10")
        passed = ["1.", "00"]
        laid(passed)
        self.assertEqual(passed, ["1.", "00"])

    def test_blank(self):
        self.assertEqual([blank(0), blank(1), blank(3), blank(12)], ["", ".", "...", "............"])
        self.assertEqual(blank(many=2), "..")

    def test_agree(self):
        for one in rows_of(CELLS):
            for other in rows_of(CELLS):
                right = all(x == y for x, y in zip(one, other) if x != "." and y != ".")
                self.assertIs(agree(one, other), right)
        self.assertIs(agree(one="0.", other=".1"), True)
        self.assertIs(agree("01", "00"), False)

    def test_cut(self):
        self.assertEqual(cut("012.", [2, 0]), "20")
        self.assertEqual(cut("012.", (3, 3, 1, 1)), "..11")
        self.assertEqual(cut("+.", [1, 0]), ".+")
        self.assertEqual(cut("01", []), "")
        self.assertEqual(cut(row="01", places=[0]), "0")


class LotsTest(unittest.TestCase):
    def test_lot_of(self):
        self.assertEqual([lot_of("..."), lot_of("0.3"), lot_of("012")], ["...", "+.+", "+++"])
        self.assertEqual(lot_of(row="0."), "+.")

    def test_within_and_union(self):
        for one in lots_of(3):
            for other in lots_of(3):
                cells = {at for at in range(3) if one[at] == "+"}
                beside = {at for at in range(3) if other[at] == "+"}
                self.assertIs(within(one, other), cells <= beside)
                self.assertEqual(union(one, other), "".join("+" if at in cells | beside else "." for at in range(3)))
        self.assertIs(within(one="+.", other="++"), True)
        self.assertIs(within("++", "+."), False)
        self.assertEqual(union(one="+.", other=".+"), "++")

    def test_the_lot_of_a_row_over_another_one(self):
        for one in rows_of(CELLS):
            for other in rows_of(CELLS):
                self.assertEqual(lot_of(over(one, other)), union(lot_of(one), lot_of(other)))

    def test_ordered_lots(self):
        self.assertEqual(ordered_lots(lots_of(3)), ["...", "+..", ".+.", "..+", "++.", "+.+", ".++", "+++"])
        self.assertEqual(ordered_lots(["++", "..", "+.", ".+"]), ["..", "+.", ".+", "++"])
        self.assertEqual(ordered_lots([]), [])
        self.assertEqual(ordered_lots(["+.", "++", "+.", "++"]), ["+.", "++"])
        self.assertEqual(ordered_lots(lots=(".+", "+.")), ["+.", ".+"])

    def test_ordered_lots_is_a_new_list(self):
        lots = ["++", "+."]
        answer = ordered_lots(lots)
        answer.append("x")
        self.assertEqual(lots, ["++", "+."])
        self.assertEqual(ordered_lots(lots), ["+.", "++"])


if __name__ == "__main__":
    unittest.main()
