"""Lists of rows by their moments, which are counted from 1: checks, tellers and ends."""

from newesttells.blocks import telling
from newesttells.errors import BadMoments, NoMoment
from newesttells.words import is_number


def check_moment(value, least, most):
    """Raises NoMoment for any value that is no number from least to most."""
    if not is_number(value, least, most):
        raise NoMoment(value)


def check_struck(moments, many):
    """Raises BadMoments for any value that is no list of different moments out of so many."""
    if not isinstance(moments, (list, tuple)):
        raise BadMoments(-1)
    for at, moment in enumerate(moments):
        if not is_number(moment, 1, many) or moment in moments[:at]:
            raise BadMoments(at)


def rows_left(rows, moments):
    """The rows that are left if some moments are struck."""
    return [row for at, row in enumerate(rows) if at + 1 not in moments]


def tellers_within(rows, blank_row):
    """The tellers of the window of all rows of a list, newest first, counted within this list."""
    pairs = [(at + 1, row) for at, row in enumerate(rows)]
    return [moment for moment, _ in telling(pairs[::-1], blank_row)]


def next_telling(rows, place, moment):
    """The least moment behind a moment that tells the cell at an index, None if there is none."""
    for at, row in enumerate(rows[moment:]):
        if row[place] != ".":
            return moment + at + 1
    return None


def last_telling(rows, place, moment):
    """The greatest moment up to a moment that tells the cell at an index, None if there is none."""
    for at in range(moment, 0, -1):
        if rows[at - 1][place] != ".":
            return at
    return None


def end_within(rows, moment):
    """The end of a moment, None if it is open."""
    end = moment
    for place, sign in enumerate(rows[moment - 1]):
        if sign != ".":
            told = next_telling(rows, place, moment)
            if told is None:
                return None
            end = max(end, told)
    return end
