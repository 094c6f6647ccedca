"""Bands of lists: which things were used last, and in which order."""

from newesttells.arranging import all_orders, are_some_of, row_of_heights
from newesttells.errors import BadPiles
from newesttells.families import band_of_rows, giver_of
from newesttells.piles import check_things, pair_cells, pair_names


def row_of_list(things, used):
    """The row of the list of the things of a string, the newest one first."""
    ranks = {thing: used.index(thing) if thing in used else len(used) for thing in things}
    signs = ["0" if thing in used else "." for thing in things]
    # Things that are not in the list are behind all others, and not apart from one another.
    return "".join(signs) + row_of_heights(pair_names(things), ranks)


def lists_by_row(things):
    """A dict from all rows of the band of lists to the strings of their things."""
    return {row_of_list(things, used): used for used in all_orders(things)}


def lists_band(things):
    """The band of the lists of things that were used last."""
    check_things(things)
    cells = [(thing, 1) for thing in things]
    cells.extend(pair_cells(things))
    return band_of_rows(cells, list(lists_by_row(things)))


def list_row(things, used):
    """The row of the list of the things of a string, which may be empty, the newest one first."""
    check_things(things)
    if not are_some_of(things, used):
        raise BadPiles()
    return row_of_list(things, used)


def list_of(things, row):
    """The string of the things of the list of a row, the newest one first."""
    check_things(things)
    return giver_of(lists_by_row(things), row)
