"""Bands of piles: the ways to lay things into a row of piles."""

from newesttells.arranging import all_piles, are_letters, pile_heights, row_of_heights
from newesttells.errors import BadPiles, BadThings
from newesttells.families import band_of_rows, giver_of

LEAST_THINGS = 2
MOST_THINGS = 4


def check_things(things):
    """Raises BadThings for any value that is no string of things."""
    if not are_letters(things, LEAST_THINGS, MOST_THINGS):
        raise BadThings()


def pair_names(things):
    """The names of the pair cells: the two letters of each two things, in the order of the things."""
    return [one + other for at, one in enumerate(things) for other in things[at + 1:]]


def pair_cells(things):
    """The list of the pair cells of things."""
    check_things(things)
    return [(name, 2) for name in pair_names(things)]


def row_of_piles(things, piles):
    """The row of a list of piles in which each thing stands once."""
    return row_of_heights(pair_names(things), pile_heights(piles))


def piles_by_row(things):
    """A dict from all rows of the band of piles to the lists of piles that give them."""
    return {row_of_piles(things, piles): piles for piles in all_piles(things)}


def piles_band(things):
    """The band of the ways to lay things into piles."""
    cells = pair_cells(things)
    return band_of_rows(cells, list(piles_by_row(things)))


def are_piles(things, value):
    """Whether any value is a list of strings that are not empty, in which each thing stands just once."""
    if not isinstance(value, (list, tuple)):
        return False
    if not all([isinstance(pile, str) and len(pile) > 0 for pile in value]):
        return False
    return sorted("".join(value)) == sorted(things)


def piles_row(things, piles):
    """The row of a list of piles."""
    check_things(things)
    if not are_piles(things, piles):
        raise BadPiles()
    return row_of_piles(things, piles)


def piles_of(things, row):
    """The list of the piles of a row, the first pile first."""
    check_things(things)
    return giver_of(piles_by_row(things), row)
