"""The interface under newesttells/coming.py; promises [7] (coming to a row), [8] (papers), [9] (two lists of seeds)."""

import random
import unittest

import oracle
from helpers import any_values, check_raises, same
from newesttells.bands import Band
from newesttells.coming import come, first_difference, is_made, look, told_lot
from newesttells.errors import BadRow

CELLS = [("a", 2), ("b", 2)]
SEEDS = ["0.", ".1", "11"]
BARRED = [("row", "00"), ("take", "0."), ("bar", ".1", "b"), ("bar", "11", "b"), ("barred",)]


def cases(seed, count):
    """Cells with lists of rows as seeds: empty ones, blank rows and duplicates among them."""
    source = random.Random(seed)
    found = []
    for _ in range(count):
        cells = oracle.random_cells(source, 3)
        seeds = [oracle.random_row(source, cells) for _ in range(source.randint(0, 5))]
        if seeds and source.random() < 0.4:
            seeds.insert(source.randrange(len(seeds)), source.choice(seeds))
        found.append((cells, seeds))
    return found


class ComeTest(unittest.TestCase):
    def test_the_example(self):
        self.assertEqual(come(CELLS, SEEDS, "00"), BARRED)
        self.assertEqual(come(cells=tuple(CELLS), seeds=tuple(SEEDS), row="00"), BARRED)

    def test_made_rows(self):
        self.assertEqual(come(CELLS, SEEDS, "01"), [("row", "01"), ("take", "0."), ("take", ".1"), ("made",)])
        self.assertEqual(come(CELLS, SEEDS, "11"), [("row", "11"), ("take", ".1"), ("take", "11"), ("made",)])
        self.assertEqual(come(CELLS, SEEDS, ".."), [("row", ".."), ("made",)])

    def test_the_first_seed_is_taken_again_and_again(self):
        cells = [("a", 2), ("b", 2), ("c", 2)]
        seeds = ["110", "01.", "0..", ".1."]
        # Behind `0..` the earlier `01.` can be taken, and then `110`, whose last cell alone is still to be told.
        self.assertEqual(come(cells, seeds, "010"), [("row", "010"), ("take", "01."), ("take", "110"), ("made",)])
        self.assertEqual(come(cells, ["110", ".1.", "01."], "010"),
                         [("row", "010"), ("take", ".1."), ("take", "01."), ("take", "110"), ("made",)])
        self.assertEqual(come(cells, ["110", "0.1", "01."], "010"),
                         [("row", "010"), ("take", "01."), ("take", "110"), ("made",)])

    def test_the_first_cell_that_bars(self):
        cells = [("x", 3), ("y", 3), ("z", 3)]
        self.assertEqual(come(cells, ["012", "0..", "..2", "021"], "0.."), [("row", "0.."), ("take", "0.."), ("made",)])
        self.assertEqual(come(cells, ["012", "0..", "..2", "021"], "00."),
                         [("row", "00."), ("take", "0.."), ("bar", "012", "y"), ("bar", "..2", "z"),
                          ("bar", "021", "y"), ("barred",)])

    def test_blank_and_double_seeds(self):
        self.assertEqual(come(CELLS, ["..", "0.", "0."], "0."), [("row", "0."), ("take", "0."), ("made",)])
        self.assertEqual(come(CELLS, ["..", "0.", "..", "0."], "1."),
                         [("row", "1."), ("bar", "0.", "a"), ("bar", "0.", "a"), ("barred",)])
        self.assertEqual(come(CELLS, [".."], "1."), [("row", "1."), ("barred",)])

    def test_no_seeds(self):
        self.assertEqual(come(CELLS, [], ".."), [("row", ".."), ("made",)])
        self.assertEqual(come(CELLS, [], "01"), [("row", "01"), ("barred",)])
        self.assertEqual(come(CELLS, (), "0."), [("row", "0."), ("barred",)])

    def test_one_cell_and_12_cells(self):
        self.assertEqual(come([("a", 1)], ["0"], "0"), [("row", "0"), ("take", "0"), ("made",)])
        cells = [(name, 4) for name in "abcdefghijkl"]
        self.assertEqual(come(cells, ["3" * 12], "3" * 12), [("row", "3" * 12), ("take", "3" * 12), ("made",)])
        self.assertEqual(come(cells, ["3" * 12], "3" * 11 + "."),
                         [("row", "3" * 11 + "."), ("bar", "3" * 12, "l"), ("barred",)])

    def test_made_exactly_if_it_is_a_row(self):
        for cells, seeds in cases(1, 60):
            rows = oracle.closure(len(cells), seeds)
            for row in oracle.all_rows(cells):
                paper = come(cells, seeds, row)
                self.assertEqual(paper[-1] == ("made",), row in rows, (cells, seeds, row))
                self.assertIs(is_made(cells, seeds, row), row in rows)
                self.check_paper(cells, seeds, row, paper)

    def check_paper(self, cells, seeds, row, paper):
        self.assertIsNone(oracle.look(cells, seeds, paper), (cells, seeds, row))
        self.assertIsNone(look(cells, seeds, paper))
        taken = [line[1] for line in paper if line[0] == "take"]
        self.assertEqual(told_lot(cells, seeds, row), self.told_by(cells, taken))
        if paper[-1] == ("made",):
            standing = "." * len(cells)
            for seed in taken:
                standing = oracle.over(standing, seed)
            self.assertEqual(standing, row)

    def told_by(self, cells, taken):
        return "".join("+" if any(seed[at] != "." for seed in taken) else "." for at in range(len(cells)))

    def test_the_seeds_are_taken_in_their_order(self):
        for cells, seeds in cases(2, 60):
            for row in oracle.all_rows(cells):
                paper = come(cells, seeds, row)
                for at, line in enumerate(paper):
                    self.check_first(cells, seeds, paper[:at], line)

    def check_first(self, cells, seeds, ahead, line):
        """No seed ahead of the taken one can be taken, and no cell ahead of the one in a bar line bars."""
        if line[0] == "take":
            for seed in seeds[:seeds.index(line[1])]:
                self.assertFalse(oracle.line_holds(cells, seeds, ahead + [("take", seed)], len(ahead)))
        if line[0] == "bar":
            names = [name for name, _ in cells]
            for name in names[:names.index(line[2])]:
                self.assertFalse(oracle.line_holds(cells, seeds, ahead + [("bar", line[1], name)], len(ahead)))

    def test_the_told_lot_does_not_hang_on_the_order(self):
        source = random.Random(3)
        for cells, seeds in cases(3, 40):
            for row in oracle.all_rows(cells):
                turned = list(seeds)
                source.shuffle(turned)
                self.assertEqual(told_lot(cells, turned, row), told_lot(cells, seeds, row))

    def test_told_lot(self):
        self.assertEqual([told_lot(CELLS, SEEDS, row) for row in ("..", "00", "01", "10", "11", "1.", ".0", ".1")],
                         ["..", "+.", "++", "..", "++", "..", "..", ".+"])
        self.assertEqual(told_lot(cells=CELLS, seeds=[], row="11"), "..")

    def test_bad_rows(self):
        for value in any_values() + ["000", "0", "02", "2.", Band(CELLS, SEEDS), ["0", "."], SEEDS, 0]:
            if not (isinstance(value, str) and value in oracle.all_rows(CELLS)):
                check_raises(self, BadRow, {"row": value}, come, CELLS, SEEDS, value)
                check_raises(self, BadRow, {"row": value}, told_lot, CELLS, SEEDS, value)
                check_raises(self, BadRow, {"row": value}, told_lot, CELLS, [], value)
                self.assertIs(is_made(CELLS, SEEDS, value), False)

    def test_is_made(self):
        self.assertEqual([is_made(CELLS, SEEDS, row) for row in oracle.all_rows(CELLS)],
                         [True, False, True, True, False, True, False, False, True])
        self.assertIs(is_made(CELLS, [], ".."), True)
        self.assertIs(is_made(cells=CELLS, seeds=[], row="0."), False)

    def test_arguments_stay(self):
        cells, seeds = list(CELLS), list(SEEDS)
        come(cells, seeds, "00").append("more")
        self.assertEqual((cells, seeds), (CELLS, SEEDS))
        self.assertEqual(come(cells, seeds, "00"), BARRED)


class LookTest(unittest.TestCase):
    def test_papers_that_hold(self):
        self.assertIsNone(look(CELLS, SEEDS, BARRED))
        self.assertIsNone(look(cells=CELLS, seeds=SEEDS, paper=tuple(BARRED)))
        self.assertIsNone(look(CELLS, SEEDS, [("row", "01"), ("take", ".1"), ("take", "0."), ("made",)]))
        self.assertIsNone(look(CELLS, SEEDS, [("row", "11"), ("take", "11"), ("made",)]))
        self.assertIsNone(look(CELLS, [], [("row", "11"), ("barred",)]))
        self.assertIsNone(look(CELLS, [], [("row", ".."), ("made",)]))

    def test_any_cell_that_bars_may_be_named(self):
        paper = [("row", "00"), ("bar", "11", "b"), ("bar", "1.", "a"), ("barred",)]
        self.assertIsNone(look(CELLS, ["11", "1."], paper))
        self.assertEqual(look(CELLS, ["11", "1."], [("row", "00"), ("bar", "11", "c")]), 1)
        self.assertEqual(look(CELLS, ["11", "1."], [("row", "00"), ("bar", "11", "a"), ("bar", "1.", "b")]), 2)

    def test_papers_without_an_end(self):
        for count in range(1, len(BARRED)):
            self.assertEqual(look(CELLS, SEEDS, BARRED[:count]), count)
        self.assertEqual(look(CELLS, SEEDS, [("row", "..")]), 1)
        # Bar lines hold although nothing can end the paper behind them.
        self.assertEqual(look(CELLS, SEEDS, [("row", "0."), ("take", "0."), ("bar", ".1", "b"), ("bar", "11", "b")]), 4)
        self.assertEqual(look(CELLS, SEEDS, [("row", "0."), ("take", "0."), ("bar", ".1", "b"), ("bar", "11", "b"),
                                             ("barred",)]), 4)
        self.assertEqual(look(CELLS, SEEDS, [("row", "0."), ("take", "0."), ("bar", ".1", "b"), ("made",)]), 3)

    def test_lines_left_out_doubled_and_exchanged(self):
        self.assertEqual([look(CELLS, SEEDS, BARRED[:at] + BARRED[at + 1:]) for at in range(5)], [0, 1, 2, 3, 4])
        self.assertEqual([look(CELLS, SEEDS, BARRED[:at + 1] + BARRED[at:]) for at in range(5)], [1, 2, 3, 4, 5])
        exchanged = [BARRED[:at] + [BARRED[at + 1], BARRED[at]] + BARRED[at + 2:] for at in range(4)]
        self.assertEqual([look(CELLS, SEEDS, paper) for paper in exchanged], [0, 1, 2, 3])

    def test_lines_put_in(self):
        for line in BARRED + [("made",), ("take", ".1"), ("take", "11"), ("bar", "0.", "a"), ("row", "0."), None]:
            for at in range(len(BARRED) + 1):
                paper = BARRED[:at] + [line] + BARRED[at:]
                self.assertEqual(look(CELLS, SEEDS, paper), oracle.look(CELLS, SEEDS, paper), paper)

    def test_lines_behind_the_last_one(self):
        made = [("row", "11"), ("take", "11"), ("made",)]
        for line in (("made",), ("barred",), ("take", ".1"), ("bar", ".1", "b"), ("row", "11"), (), None, "made"):
            self.assertEqual(look(CELLS, SEEDS, made + [line]), 3)
            self.assertEqual(look(CELLS, SEEDS, BARRED + [line, line]), 5)

    def test_a_seed_that_stands_twice_has_two_bar_lines(self):
        seeds = ["0.", "..", "0."]
        once = [("row", "1."), ("bar", "0.", "a"), ("barred",)]
        twice = [("row", "1."), ("bar", "0.", "a"), ("bar", "0.", "a"), ("barred",)]
        self.assertEqual(look(CELLS, seeds, once), 2)
        self.assertIsNone(look(CELLS, seeds, twice))
        self.assertEqual(look(CELLS, ["0.", ".."], twice), 2)

    def test_no_paper_at_all(self):
        for value in any_values() + [Band(CELLS, SEEDS), "row", ("row", "00"), {0: ("row", "00")}]:
            self.assertEqual(look(CELLS, SEEDS, value), 0, repr(value))

    def test_bent_lines(self):
        for at, line in enumerate(BARRED):
            bent = [list(line), line + ("a",), line[:-1], line + (True,), (line,), "".join(line), (True,) + line[1:],
                    (None,), line[:1] + (None,) * (len(line) - 1) if len(line) > 1 else ("Barred",)]
            for value in bent + any_values() + [Band(CELLS, SEEDS)]:
                paper = BARRED[:at] + [value] + BARRED[at + 1:]
                self.assertEqual(look(CELLS, SEEDS, paper), at, paper)

    def test_items_of_lines_of_any_value(self):
        for value in any_values() + [Band(CELLS, SEEDS), "11", ".0"]:
            for paper in ([("row", value), ("made",)], [("row", "00"), ("take", value)], [("row", "00"), (value,)],
                          [("row", "00"), ("take", "0."), ("bar", value, "b")],
                          [("row", "00"), ("take", "0."), ("bar", ".1", value)], [(value, "00")]):
                self.assertEqual(look(CELLS, SEEDS, paper), oracle.look(CELLS, SEEDS, paper), paper)

    def test_rows_of_the_first_line(self):
        for value in ("0", "000", "02", "2.", "++", "", None, 0, ["0", "0"]):
            self.assertEqual(look(CELLS, SEEDS, [("row", value), ("barred",)]), 0)

    def test_changed_papers_against_the_words(self):
        source = random.Random(4)
        for cells, seeds in cases(4, 150):
            row = source.choice(oracle.all_rows(cells))
            paper = come(cells, seeds, row)
            for _ in range(30):
                changed = self.change(source, cells, seeds, paper)
                right = oracle.look(cells, seeds, changed)
                self.assertEqual(look(cells, seeds, changed), right, (cells, seeds, changed))

    def change(self, source, cells, seeds, paper):
        changed = list(paper)
        for _ in range(source.randint(1, 2)):
            at = source.randrange(len(changed) + 1)
            line = self.some_line(source, cells, seeds, paper)
            kind = source.randrange(4)
            if kind == 0:
                changed.insert(at, line)
            elif kind == 1:
                changed[at:at + 1] = [line]
            elif kind == 2:
                del changed[at:at + 1]
            else:
                changed[at:at + 2] = changed[at:at + 2][::-1]
        return changed

    def some_line(self, source, cells, seeds, paper):
        row = source.choice(list(seeds) + oracle.all_rows(cells))
        name = source.choice(cells)[0]
        return source.choice(list(paper) + [("take", row), ("bar", row, name), ("made",), ("barred",), ("row", row)])


class DifferenceTest(unittest.TestCase):
    def test_equal_rows(self):
        self.assertIsNone(first_difference(CELLS, SEEDS, ["11", ".1", "0.", "01"]))
        self.assertIsNone(first_difference(CELLS, [], []))
        self.assertIsNone(first_difference(CELLS, [], [".."]))
        self.assertIsNone(first_difference(CELLS, ["..", "0.", "0."], ["0."]))

    def test_the_first_side(self):
        found = first_difference(CELLS, ["0.", "1.", "10"], ["0.", "11"])
        self.assertEqual(found, (0, "1.", [("row", "1."), ("bar", "0.", "a"), ("bar", "11", "b"), ("barred",)]))
        self.assertIs(type(found), tuple)
        self.assertEqual(first_difference(CELLS, ["0.", "00"], []), (0, "0.", [("row", "0."), ("barred",)]))

    def test_the_second_side(self):
        self.assertEqual(first_difference(CELLS, ["0.", ".1"], ["0.", "01", ".1", "11", "1."]),
                         (1, "11", [("row", "11"), ("take", ".1"), ("bar", "0.", "a"), ("barred",)]))
        self.assertEqual(first_difference(cells=CELLS, one=[], other=("..", ".1")),
                         (1, ".1", [("row", ".1"), ("barred",)]))

    def test_against_the_rows(self):
        for (cells, seeds), (_, more) in zip(cases(5, 200), cases(6, 200)):
            other = [row for row in more if row in oracle.all_rows(cells)]
            found = first_difference(cells, seeds, other)
            rows, others = oracle.closure(len(cells), seeds), oracle.closure(len(cells), other)
            missing = [(0, row) for row in seeds if row not in others] + [(1, row) for row in other if row not in rows]
            self.assertEqual(found is None, rows == others)
            if missing:
                side, row = missing[0]
                self.assertTrue(same(found, (side, row, come(cells, seeds if side else other, row))))


if __name__ == "__main__":
    unittest.main()
