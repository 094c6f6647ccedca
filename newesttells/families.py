"""Families of rows: whether they are closed, and the fewest seeds that make them."""

from newesttells.bands import Band, check_some_lot, check_told
from newesttells.codes import code_of, told_code
from newesttells.coming import comes_to
from newesttells.errors import BadRow, NotClosed, NotInBand, TooMany
from newesttells.rows import MOST_ROWS, MOST_SEEDS, blank, check_cells, is_row, lot_of, ordered_lots, over, within


def first_break(rows):
    """The first pair of rows of a list with one over the other outside the list, None if there is none."""
    different = sorted(set(rows))
    codes = [code_of(row) for row in different]
    # A row over another one is blank only if both are, so that the blank row needs no place of its own here.
    known = set(codes)
    for one, code in zip(different, codes):
        told = told_code(one)
        for other, under in zip(different, codes):
            if code | (under & ~told) not in known:
                return one, other
    return None


def band_of_rows(cells, rows):
    """The band whose rows are the rows of a list, and the blank row, with its fewest seeds."""
    check_cells(cells)
    for row in rows:
        if not is_row(cells, row):
            raise BadRow(row)
    different = sorted(set([blank(len(cells)), *rows]))
    if len(different) > MOST_ROWS:
        raise TooMany(MOST_ROWS)
    pair = first_break(different)
    if pair is not None:
        raise NotClosed(pair[0], pair[1])
    check_told(cells, different)
    seeds = needed_seeds(different)
    if len(seeds) > MOST_SEEDS:
        raise TooMany(MOST_SEEDS)
    return Band(cells, seeds)


def giver_of(known, row):
    """What gives a row, by a dict from all rows of a band to what gives them; raises NotInBand for any other value."""
    if not isinstance(row, str) or row not in known:
        raise NotInBand(row)
    return known[row]


def fewest_seeds(band):
    """The least row of each first class of each lot of a band."""
    return needed_seeds(band.rows())


def needed_seeds(rows):
    """The fewest seeds of the band with the rows of an ascending list."""
    members = {}
    for row in rows:
        members.setdefault(lot_of(row), []).append(row)
    found = []
    for lot in ordered_lots(list(members)):
        if lot != blank(len(lot)):
            classes = first_classes(lot, members[lot], smaller_ones(found, lot))
            found.extend([rows_of_class[0] for rows_of_class in classes])
    return found


def smaller_ones(seeds, lot):
    """The seeds whose lots are within a lot and are not that lot."""
    return [seed for seed in seeds if lot_of(seed) != lot and within(lot_of(seed), lot)]


def seed_classes(band, lot):
    """The first classes of a lot of a band, each an ascending list of rows, ordered by their least rows."""
    check_some_lot(band, lot)
    members = [row for row in band.rows() if lot_of(row) == lot]
    return first_classes(lot, members, smaller_ones(band.seeds(), lot))


def first_classes(lot, members, seeds):
    """The first classes among the rows with a lot. The seeds must make just the smaller rows of the lot: then single
    seeds lead from class to class as the smaller rows do, and make the same rows."""
    steps = {row: [over(seed, row) for seed in seeds] for row in members}
    back = turned_round(steps)
    classes = []
    for root in sources(members, steps):
        rows = sorted(reached_beyond(root, back, {}))
        # Either all rows of a class are made by the smaller rows, or none is.
        if not comes_to(seeds, root):
            classes.append(rows)
    return sorted(classes)


def turned_round(steps):
    """The steps of a dict from rows to lists of rows, led the other way."""
    back = {row: [] for row in steps}
    for row, further in steps.items():
        for other in further:
            back[other].append(row)
    return back


def spread_roots(rows, steps):
    """The rows of a list that are not reached from those ahead of them."""
    known = {}
    roots = []
    for row in rows:
        if row not in known:
            roots.append(row)
            for other in reached_beyond(row, steps, known):
                known[other] = True
    return roots


def reached_beyond(start, steps, known):
    """The list of the rows that are reached from a row in some steps or none, none of them known yet."""
    found = {start: True}
    waiting = [start]
    while len(waiting) > 0:
        last = waiting.pop()
        for row in steps[last]:
            if row not in known and row not in found:
                found[row] = True
                waiting.append(row)
    return list(found)


def sources(rows, steps):
    """One row of each class to which no other class leads.

    The roots of a first spreading reach all rows, and none of them is reached from an earlier one. So a root that a
    second spreading, from the last root to the first one, does not reach either is reached from its own class alone.
    """
    roots = spread_roots(rows, steps)
    return spread_roots(roots[::-1], steps)
