"""Cells, rows and lots as strings of signs, and how one row lies over another one."""

from newesttells.errors import BadCells
from newesttells.words import is_name, is_number

MOST_ROWS = 800
MOST_SEEDS = 30
MOST_CELLS = 12
MOST_VALUES = 4
DIGITS = "0123"
DOT = "."
PLUS = "+"


def is_cell(value):
    """Whether any value is a pair (name, many)."""
    if not isinstance(value, tuple) or len(value) != 2:
        return False
    return is_name(value[0]) and is_number(value[1], 1, MOST_VALUES)


def check_cells(cells):
    """Raises BadCells for any value that is no list of cells of a band."""
    if not isinstance(cells, (list, tuple)) or not 1 <= len(cells) <= MOST_CELLS:
        raise BadCells(-1)
    names = []
    for at, cell in enumerate(cells):
        if not is_cell(cell) or cell[0] in names:
            raise BadCells(at)
        names.append(cell[0])


def is_row(cells, value):
    """Whether any value is a row for a list of cells."""
    if not isinstance(value, str) or len(value) != len(cells):
        return False
    return all([sign == DOT or sign in DIGITS[:cell[1]] for sign, cell in zip(value, cells)])


def is_lot(cells, value):
    """Whether any value is a lot for a list of cells."""
    if not isinstance(value, str) or len(value) != len(cells):
        return False
    return all([sign == DOT or sign == PLUS for sign in value])


def over(newer, older):
    """One row over another one for the same cells."""
    return "".join([under if sign == DOT else sign for sign, under in zip(newer, older)])


def laid(rows):
    """The last row of a list, over the one ahead of it, and so on, over the first one."""
    standing = rows[0]
    for row in rows[1:]:
        standing = over(row, standing)
    return standing


def lot_of(row):
    """The lot of the cells that a row tells."""
    return "".join([DOT if sign == DOT else PLUS for sign in row])


def blank(many):
    """The blank row of so many cells; the lot nothing is written likewise."""
    return DOT * many


def within(one, other):
    """Whether each cell of the first lot is in the second one."""
    return all([sign == DOT or holding == PLUS for sign, holding in zip(one, other)])


def union(one, other):
    """The lot of the cells that are in one of two lots."""
    return over(one, other)


def agree(one, other):
    """Whether no cell is told by both rows with unlike signs."""
    return all([sign == beside or sign == DOT or beside == DOT for sign, beside in zip(one, other)])


def cut(row, places):
    """The signs of a row or lot at a list of indexes of cells, in that order."""
    return "".join([row[place] for place in places])


def lot_size(lot):
    """The number of the cells of a lot."""
    return lot.count(PLUS)


def ordered_lots(lots):
    """Different lots by the number of their cells, and those with equal numbers by the order of strings."""
    return sorted(sorted(set(lots)), key=lot_size)
