"""What would be if the past of a stream were changed; the stream itself stays."""

from newesttells.moments import check_moment, last_telling, next_telling


def seen(stream, row, *, behind):
    """A tuple (cell, first, last, changing) for each cell that a row, put behind a moment, tells."""
    stream.band.check_row(row)
    rows = stream.rows()
    check_moment(behind, 0, len(rows))
    found = []
    for place, name in enumerate(stream.band.names()):
        if row[place] != ".":
            older = last_telling(rows, place, behind)
            changing = older is None or rows[older - 1][place] != row[place]
            # The next moment that tells the cell stands one later in the changed stream.
            found.append((name, behind + 1, next_telling(rows, place, behind), changing))
    return found


def shows_until(stream, row, *, behind):
    """The greatest moment of the changed stream in a changing stretch, 0 if no stretch is changing."""
    shown = 0
    for _, _, last, changing in seen(stream, row, behind=behind):
        if changing:
            shown = max(shown, len(stream) + 1 if last is None else last)
    return shown


def latest_idle(stream, row):
    """The greatest place that is idle for a row, None if there is none."""
    stream.band.check_row(row)
    rows = stream.rows()
    latest = len(rows)
    for place, sign in enumerate(stream.standing):
        if row[place] != "." and row[place] != sign:
            told = last_telling(rows, place, len(rows))
            if told is None:
                return None
            latest = min(latest, told - 1)
    return latest


def exchange_cell(stream, moment):
    """The name of the first cell at which exchanging a moment changes the standing, None if there is none."""
    rows = stream.rows()
    check_moment(moment, 1, len(rows) - 1)
    for place, name in enumerate(stream.band.names()):
        signs = (rows[moment - 1][place], rows[moment][place])
        if "." not in signs and signs[0] != signs[1] and next_telling(rows, place, moment + 1) is None:
            return name
    return None
