"""Bands of webs: which of two tied places is higher."""

from newesttells.arranging import all_piles, are_letters, pile_heights, row_of_heights
from newesttells.errors import BadHeights, BadRow, BadThings, BadTies, NotInBand
from newesttells.families import band_of_rows
from newesttells.rows import is_row
from newesttells.words import is_integer

LEAST_PLACES = 2
MOST_PLACES = 6
MOST_TIES = 12


def is_tie(places, value):
    """Whether any value is a string of two different places."""
    if not isinstance(value, str) or len(value) != 2 or value[0] == value[1]:
        return False
    return value[0] in places and value[1] in places


def check_web(places, ties):
    """Raises BadThings for any places that are none, and BadTies for any ties that are none."""
    if not are_letters(places, LEAST_PLACES, MOST_PLACES):
        raise BadThings()
    if not isinstance(ties, (list, tuple)) or not 1 <= len(ties) <= MOST_TIES:
        raise BadTies(-1)
    for at, tie in enumerate(ties):
        if not is_tie(places, tie) or tie in ties[:at] or tie[::-1] in ties[:at]:
            raise BadTies(at)


def web_cells(ties):
    """The cells of the band of a web."""
    return [(tie, 2) for tie in ties]


def web_band(places, ties):
    """The band of the rows of all heights of the places of a web."""
    check_web(places, ties)
    # The heights count only by their order, and so does the order of piles.
    rows = {row_of_heights(ties, pile_heights(piles)): True for piles in all_piles(places)}
    return band_of_rows(web_cells(ties), list(rows))


def web_row(places, ties, heights):
    """The row of a list of heights, one for each place."""
    check_web(places, ties)
    if not isinstance(heights, (list, tuple)) or len(heights) != len(places):
        raise BadHeights()
    if not all([is_integer(height) for height in heights]):
        raise BadHeights()
    return row_of_heights(ties, dict(zip(places, heights)))


def raised_heights(ties, row, heights):
    """The heights of some places, each raised as far as its ties ask for."""
    higher = dict(heights)
    for tie, sign in zip(ties, row):
        one, other = tie
        if sign == "0":
            higher[other] = max(higher[other], higher[one] + 1)
        elif sign == "1":
            higher[one] = max(higher[one], higher[other] + 1)
        else:
            higher[one] = higher[other] = max(higher[one], higher[other])
    return higher


def least_heights(places, ties, row):
    """A dict from the places to the least heights from 0 on that give a row, None if no heights do."""
    heights = {place: 0 for place in places}
    higher = raised_heights(ties, row, heights)
    while higher != heights:
        # The least heights of places that have any are no greater, because they leave no height out.
        if max(list(higher.values())) >= len(places):
            return None
        heights = higher
        higher = raised_heights(ties, row, heights)
    return heights


def heights_of(places, ties, row):
    """A list of heights, one for each place, that give a row."""
    check_web(places, ties)
    heights = least_heights(places, ties, row) if is_row(web_cells(ties), row) else None
    if heights is None:
        raise NotInBand(row)
    return [heights[place] for place in places]


def arrows_of(places, ties, row):
    """A dict from the places to the lists of the places to which their arrows lead."""
    arrows = {place: [] for place in places}
    for tie, sign in zip(ties, row):
        if sign != ".":
            start, end = tie if sign == "0" else tie[::-1]
            arrows[start].append(end)
    return arrows


def ring_of(places, ties, row):
    """A ring of the arrows of a row, as a list of places, None if there is none."""
    check_web(places, ties)
    if not is_row(web_cells(ties), row):
        raise BadRow(row)
    arrows = arrows_of(places, ties, row)
    left = []
    further = list(places)
    # Places without an arrow to a place that is left are in no ring.
    while left != further:
        left = further
        further = [place for place in left if any([end in left for end in arrows[place]])]
    return ring_from(arrows, left) if len(left) > 0 else None


def ring_from(arrows, left):
    """The ring in which a walk ends among places that all have an arrow to one of them."""
    walk = []
    place = left[0]
    while place not in walk:
        walk.append(place)
        place = [end for end in arrows[place] if end in left][0]
    return walk[walk.index(place):]


def count_directions(places, ties):
    """The number of full rows of a web, also where its band has too many rows."""
    check_web(places, ties)
    return count_full(list(ties))


def count_full(ties):
    """The number of full rows of a web with ties: of the web without the first tie, and of the one in which both its
    places are one."""
    if len(ties) == 0:
        return 1
    one, other = ties[0]
    drawn = []
    for tie in ties[1:]:
        moved = tie.replace(other, one)
        if moved not in drawn and moved[::-1] not in drawn:
            drawn.append(moved)
    return count_full(ties[1:]) + count_full(drawn)
