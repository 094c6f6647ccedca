"""Streams: rows of a band at the moments 1, 2, 3 and so on, and what stands behind their windows."""

from newesttells.bands import places_of
from newesttells.blocks import Block
from newesttells.errors import TooMany
from newesttells.moments import check_moment, check_struck, end_within, rows_left, tellers_within
from newesttells.rows import cut, laid
from newesttells.words import is_number

MOST_MOMENTS = 400


class Stream:
    """A list of rows of a band that can be told more, and whose past can be changed."""

    def __init__(self, band, rows=()):
        if len(rows) > MOST_MOMENTS:
            raise TooMany(MOST_MOMENTS)
        for row in rows:
            band.check_row(row)
        self.band = band
        self._rows = list(rows)

    @property
    def standing(self):
        """The standing of the whole stream."""
        return laid([self.band.blank_row(), *self._rows])

    @property
    def spare_count(self):
        """The number of moments that are spare in the window of the whole stream."""
        return len(self._rows) - len(tellers_within(self._rows, self.band.blank_row()))

    def rows(self):
        """The list of the rows, from the oldest on."""
        return list(self._rows)

    def __getitem__(self, at):
        check_moment(at, 1, len(self._rows))
        return self._rows[at - 1]

    def __setitem__(self, at, worth):
        self.change(at, worth)

    def __iter__(self):
        raise TypeError("a stream is not iterated over; its rows() are")

    def change(self, moment, row):
        """Replaces the row at a moment."""
        check_moment(moment, 1, len(self._rows))
        self.band.check_row(row)
        self._rows[moment - 1] = row

    def tell(self, *rows):
        """Adds rows at the end; returns the number of moments behind this."""
        if len(self._rows) + len(rows) > MOST_MOMENTS:
            raise TooMany(MOST_MOMENTS)
        for row in rows:
            self.band.check_row(row)
        self._rows.extend(rows)
        return len(self._rows)

    def put(self, row, *, behind):
        """Puts a row behind a moment, or ahead of all moments with behind=0."""
        self.band.check_row(row)
        check_moment(behind, 0, len(self._rows))
        if len(self._rows) == MOST_MOMENTS:
            raise TooMany(MOST_MOMENTS)
        self._rows.insert(behind, row)

    def take(self, moment):
        """Removes the row at a moment and returns it."""
        check_moment(moment, 1, len(self._rows))
        return self._rows.pop(moment - 1)

    def exchange(self, moment):
        """Lets the rows at a moment and the next one change places."""
        check_moment(moment, 1, len(self._rows) - 1)
        row = self._rows[moment]
        self._rows[moment] = self._rows[moment - 1]
        self._rows[moment - 1] = row

    def strike(self, moments):
        """Takes a list of moments out of the stream, all at once."""
        check_struck(moments, len(self._rows))
        self._rows = rows_left(self._rows, moments)

    def window(self, *, start=1, end=None):
        """The standing of the window from a moment to another one, None for the last one."""
        return laid(self._rows_from(start, end))

    def tellers(self, *, start=1, end=None):
        """The list of the tellers of such a window, from the newest on."""
        if len(self._rows) == 0 and is_number(start, 1, 1) and end is None:
            return []
        rows = self._rows_from(start, end)
        return [start - 1 + moment for moment in tellers_within(rows, self.band.blank_row())]

    def _rows_from(self, start, end):
        """The rows of a window; raises the errors of its moments."""
        many = len(self._rows)
        check_moment(start, 1, many)
        if end is None:
            return self._rows[start - 1:]
        check_moment(end, start, many)
        return self._rows[start - 1:end]

    def end_of(self, moment):
        """The end of a moment, None if it is open."""
        check_moment(moment, 1, len(self._rows))
        return end_within(self._rows, moment)

    def ends(self):
        """The list of the ends of all moments, None for open ones."""
        return [end_within(self._rows, at + 1) for at in range(len(self._rows))]

    def block(self):
        """The block of the rows."""
        return Block(self.band, self._rows)

    def onto(self, cells):
        """A new stream with the signs at the cells with the names in a list alone."""
        band = self.band.onto(cells)
        places = places_of(self.band, band.names())
        return Stream(band, [cut(row, places) for row in self._rows])

    def twin(self):
        """An independent stream with the same rows."""
        return Stream(self.band, self._rows)

    def __add__(self, other):
        if not isinstance(other, Stream):
            return NotImplemented
        return Stream(self.band, self._rows + other._rows)

    def __eq__(self, other):
        return isinstance(other, Stream) and self.band == other.band and self._rows == other._rows

    def __len__(self):
        return len(self._rows)

    def __bool__(self):
        return True

    def __repr__(self):
        return f"Stream({len(self._rows)} moments)"
