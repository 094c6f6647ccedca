"""Bands of fronts: some things are moved to the front, and all others lie behind them in one pile."""

from newesttells.arranging import all_orders, are_some_of
from newesttells.errors import BadPiles
from newesttells.families import band_of_rows, giver_of
from newesttells.piles import check_things, pair_cells, row_of_piles


def row_of_front(things, front):
    """The row of the things of a string moved to the front."""
    behind = "".join([thing for thing in things if thing not in front])
    # A string has its letters one by one, each of them a pile.
    return row_of_piles(things, [*front, behind])


def fronts_by_row(things):
    """A dict from all rows of the band of fronts to the strings of the things that lie alone."""
    # Of things that all lie alone, a front of all but the last one has the same row as a front of all.
    return {row_of_front(things, front): front for front in all_orders(things) if len(front) != len(things) - 1}


def fronts_band(things):
    """The band of the fronts of things."""
    cells = pair_cells(things)
    return band_of_rows(cells, list(fronts_by_row(things)))


def front_row(things, front):
    """The row of the things of a string, which may be empty, moved to the front."""
    check_things(things)
    if not are_some_of(things, front):
        raise BadPiles()
    return row_of_front(things, front)


def front_of(things, row):
    """The string of the things that lie alone in a row, from the front on."""
    check_things(things)
    return giver_of(fronts_by_row(things), row)
