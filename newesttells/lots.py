"""The lots of a band: how many rows lie above one another, and the signed and plain counts."""

from newesttells.codes import code_of, lot_code, told_code
from newesttells.errors import BadLot
from newesttells.rows import lot_of, over, within


def rows_above(band, row):
    """The ascending list of the rows of a band that lie above a row of it."""
    band.check_row(row)
    return [higher for higher in band.rows() if over(row, higher) == higher]


def first_rows(band):
    """A dict from the lots of a band to the least row with each."""
    found = {}
    for row in band.rows():
        found.setdefault(lot_of(row), row)
    return found


def lying_counts(band, lot):
    """A dict from the lots T of a band such that the lot is within T to c(lot, T)."""
    if lot not in band.lots():
        raise BadLot(lot)
    counts = {higher: 0 for higher in band.lots() if within(lot, higher)}
    # The count is the same for all rows with the lot, so that one of them will do.
    for row in rows_above(band, first_rows(band)[lot]):
        counts[lot_of(row)] += 1
    return counts


def full_counts(band):
    """A dict from the lots S of a band to c(S, all)."""
    codes = [code_of(row) for row in band.full_rows()]
    rows = first_rows(band)
    counts = {}
    for lot in band.lots():
        code = code_of(rows[lot])
        told = told_code(rows[lot])
        counts[lot] = len([full for full in codes if full & told == code])
    return counts


def counts_of_sums(sums):
    """The counts whose sums over the lots that each lot is within are given by a dict with the lots in order."""
    lots = list(sums)
    codes = {lot: lot_code(lot) for lot in lots}
    counts = {}
    for lot in lots[::-1]:
        code = codes[lot]
        above = sum([count for higher, count in counts.items() if codes[higher] & code == code])
        counts[lot] = sums[lot] - above
    return {lot: counts[lot] for lot in lots}


def signed_counts(band):
    """A dict from all lots S of a band to u(S)."""
    lots = band.lots()
    sums = {lot: 0 for lot in lots}
    sums[lots[-1]] = 1
    return counts_of_sums(sums)


def plain_counts(band):
    """A dict from all lots S of a band to m(S)."""
    return counts_of_sums(full_counts(band))
