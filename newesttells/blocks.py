"""Blocks: what windows need to know of a list of rows, joined and repeated without the rows."""

from newesttells.errors import BadNumber
from newesttells.rows import over
from newesttells.words import digits_of, is_number

MOST_REPEATS = 10 ** 30


class Digest:
    """What a block keeps: how many moments there are, and the pairs (moment, row) of the tellers, newest first."""

    def __init__(self, many, pairs):
        self.many = many
        self.pairs = pairs

    def __eq__(self, other):
        return isinstance(other, Digest) and self.many == other.many and self.pairs == other.pairs


def telling(pairs, standing):
    """The pairs, newest first, whose rows tell a cell that neither a newer pair nor a newer standing tells."""
    kept = []
    for moment, row in pairs:
        further = over(standing, row)
        if further != standing:
            kept.append((moment, row))
            standing = further
    return kept


def standing_of(pairs, standing):
    """The rows of pairs, newest first, under a newer standing."""
    for _, row in pairs:
        standing = over(standing, row)
    return standing


def digest_of(band, rows):
    """The digest of a list of rows; raises the errors of a row for the first wrong item."""
    for row in rows:
        band.check_row(row)
    pairs = [(at + 1, row) for at, row in enumerate(rows)]
    return Digest(len(rows), telling(pairs[::-1], band.blank_row()))


def joined(older, newer, blank_row):
    """The digest of the rows of an older digest followed by those of a newer one."""
    pairs = [(moment + older.many, row) for moment, row in newer.pairs]
    pairs.extend(telling(older.pairs, standing_of(newer.pairs, blank_row)))
    return Digest(older.many + newer.many, pairs)


def repeated(digest, count):
    """The digest of the rows of a digest so many times in a row; only the newest ones have tellers."""
    if count == 0:
        return Digest(0, [])
    ahead = (count - 1) * digest.many
    return Digest(ahead + digest.many, [(moment + ahead, row) for moment, row in digest.pairs])


class Block:
    """The length and the tellers of a list of rows. A block never changes."""

    def __init__(self, band, rows):
        self.band = band
        # The operators have no rows to make a block of, but a digest.
        self._digest = rows if isinstance(rows, Digest) else digest_of(band, rows)

    @property
    def length(self):
        """The number of moments."""
        return self._digest.many

    @property
    def standing(self):
        """The standing of the window of all moments."""
        return standing_of(self._digest.pairs, self.band.blank_row())

    def tellers(self):
        """The list of the pairs (moment, row) of the tellers, from the newest on."""
        return list(self._digest.pairs)

    def __add__(self, other):
        if not isinstance(other, Block):
            return NotImplemented
        return Block(self.band, joined(self._digest, other._digest, self.band.blank_row()))

    def __mul__(self, other):
        if not is_number(other, 0, MOST_REPEATS):
            raise BadNumber(other)
        return Block(self.band, repeated(self._digest, other))

    def __rmul__(self, other):
        return self * other

    def __eq__(self, other):
        return isinstance(other, Block) and self.band == other.band and self._digest == other._digest

    def __bool__(self):
        return True

    def __repr__(self):
        return f"Block({digits_of(self.length)} moments)"
