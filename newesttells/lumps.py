"""Lumps of full rows that all deeds lead as one."""

from newesttells.errors import BadLumps, BadNumber, Broken
from newesttells.ratios import ZERO, plus
from newesttells.rows import over
from newesttells.words import is_number


def is_list(value):
    """Whether any value is a list or a tuple."""
    return isinstance(value, (list, tuple))


def check_lumps(band, lumps):
    """Raises BadLumps for any value that is no list of lists in which each full row stands just once."""
    if not is_list(lumps) or not all([is_list(lump) and len(lump) > 0 for lump in lumps]):
        raise BadLumps()
    members = [row for lump in lumps for row in lump]
    if not all([isinstance(row, str) for row in members]) or sorted(members) != band.full_rows():
        raise BadLumps()


def indexes_of(lumps):
    """A dict from the full rows to the indexes of their lumps."""
    return {row: at for at, lump in enumerate(lumps) for row in lump}


def torn_pair(lump, ends):
    """The least row of a lump and the least one that ends in another lump than it, None if there is none."""
    rows = sorted(lump)
    for row in rows:
        if ends[row] != ends[rows[0]]:
            return rows[0], row
    return None


def lumps_break(band, lumps):
    """None if lumps hold; otherwise the first seed, and the least two rows of a lump that it leads apart."""
    check_lumps(band, lumps)
    indexes = indexes_of(lumps)
    for seed in band.seeds():
        ends = {row: indexes[over(seed, row)] for row in indexes}
        pairs = [torn_pair(lump, ends) for lump in lumps]
        torn = [pair for pair in pairs if pair is not None]
        if len(torn) > 0:
            one, other = min(torn)
            return seed, one, other
    return None


def are_pairs(band, value):
    """Whether any value is a list of pairs of full rows of a band."""
    if not is_list(value) or not all([isinstance(pair, tuple) and len(pair) == 2 for pair in value]):
        return False
    rows = band.full_rows()
    return all([row in rows for pair in value for row in pair])


def leader_of(leaders, row):
    """The row that stands for all rows of the lump of a row."""
    while leaders[row] != row:
        row = leaders[row]
    return row


def least_lumps(band, pairs):
    """The least lumps that hold and in which both rows of each pair are in one lump, ordered by their first rows."""
    if not are_pairs(band, pairs):
        raise BadLumps()
    leaders = {row: row for row in band.full_rows()}
    seeds = band.seeds()
    waiting = list(pairs)
    while len(waiting) > 0:
        one, other = waiting.pop()
        first = leader_of(leaders, one)
        second = leader_of(leaders, other)
        if first != second:
            leaders[max(first, second)] = min(first, second)
            # Where two rows come together, all that the seeds make of them must do so, too.
            waiting.extend([(over(seed, one), over(seed, other)) for seed in seeds])
    lumps = {}
    for row in leaders:
        lumps.setdefault(leader_of(leaders, row), []).append(row)
    return list(lumps.values())


def lump_of(lumps, row):
    """The index of the lump in which a full row stands."""
    return indexes_of(lumps)[row]


def lump_after(book, lumps, lump, t):
    """A dict from the indexes of lumps to the chances that t drawn deeds lead there from the lump with an index."""
    torn = lumps_break(book.band, lumps)
    if torn is not None:
        raise Broken(torn[0], torn[1], torn[2])
    if not is_number(lump, 0, len(lumps) - 1):
        raise BadNumber(lump)
    left = book.after(t)
    indexes = indexes_of(lumps)
    chances = {}
    for row, chance in left.items():
        # Where the lumps hold, any row of the lump will do.
        at = indexes[over(row, lumps[lump][0])]
        chances[at] = plus(chances.get(at, ZERO), chance)
    return {at: chances[at] for at in sorted(chances)}
