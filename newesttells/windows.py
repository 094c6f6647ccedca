"""Questions about the windows of a stream, and about strikes."""

from newesttells.bands import told_places
from newesttells.blocks import telling
from newesttells.errors import BadLot
from newesttells.moments import check_struck, rows_left
from newesttells.rows import is_lot, laid, over


def standing_counts(stream):
    """A dict from the standings of all windows of a stream to the number of windows that have them."""
    counts = {}
    pairs = []
    blank_row = stream.band.blank_row()
    for at, row in enumerate(stream.rows()):
        pairs = telling([(at + 1, row), *pairs], blank_row)
        # Of the windows with one end, those that start between two tellers have one standing.
        start = at + 1
        standing = blank_row
        for moment, told in pairs:
            counts[standing] = counts.get(standing, 0) + start - moment
            start = moment
            standing = over(standing, told)
        counts[standing] = counts.get(standing, 0) + start
    return {standing: counts[standing] for standing in sorted(counts) if counts[standing] > 0}


def newest_starts(rows, lot):
    """For each moment, the greatest start of a window to it that tells all cells of a lot, 0 if there is none."""
    places = told_places(lot)
    newest = [0 for _ in places]
    starts = []
    for at, row in enumerate(rows):
        for k, place in enumerate(places):
            if row[place] != ".":
                newest[k] = at + 1
        starts.append(min([at + 1, *newest]))
    return starts


def least_windows(stream, lot):
    """The ascending list of the pairs (start, end) of the windows that are least for a lot."""
    if not is_lot(stream.band.cells(), lot):
        raise BadLot(lot)
    windows = []
    ahead = 0
    for at, start in enumerate(newest_starts(stream.rows(), lot)):
        # A window with the start of an earlier end, or with none, is not least.
        if start > ahead:
            windows.append((start, at + 1))
        ahead = start
    return windows


def struck_cells(stream, moments):
    """The names of the cells at which the standing would change if a list of moments were struck."""
    rows = stream.rows()
    check_struck(moments, len(rows))
    left = laid([stream.band.blank_row(), *rows_left(rows, moments)])
    return [name for name, sign, new in zip(stream.band.names(), stream.standing, left) if sign != new]
