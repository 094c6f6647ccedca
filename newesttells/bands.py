"""Bands: the rows that seeds make by laying them over one another, and bands from bands."""

from newesttells.bandtexts import cells_from, lines_of, rows_from, text_of_band
from newesttells.coming import come
from newesttells.errors import (BadCells, BadLot, BadNumber, BadRow, BadSeed, InvalidText, IsFull, NotInBand,
                                TellsError, TooMany, UnknownCell, Untold)
from newesttells.rows import (MOST_ROWS, MOST_SEEDS, blank, check_cells, cut, is_row, lot_of, ordered_lots, over,
                              within)
from newesttells.words import is_number


def check_seeds(cells, seeds):
    """Raises the errors of any value that is no list of seeds for the cells."""
    if not isinstance(seeds, (list, tuple)):
        raise BadSeed(-1)
    if len(seeds) > MOST_SEEDS:
        raise TooMany(MOST_SEEDS)
    for at, seed in enumerate(seeds):
        if not is_row(cells, seed) or seed == blank(len(cells)) or seed in seeds[:at]:
            raise BadSeed(at)


def check_told(cells, rows):
    """Raises Untold with the first cell that no row of a list tells."""
    for at, cell in enumerate(cells):
        if all([row[at] == "." for row in rows]):
            raise Untold(cell[0])


def made_rows(many, seeds, most):
    """The rows for so many cells that the seeds make, ascending; some rows more than most if there are too many."""
    known = {blank(many): True}
    fresh = [blank(many)]
    while len(fresh) > 0 and len(known) <= most:
        found = []
        for row in fresh:
            for seed in seeds:
                further = over(row, seed)
                if further not in known:
                    known[further] = True
                    found.append(further)
        fresh = found
    return sorted(known)


def first_seeds(seeds):
    """The seeds of a list without blank ones and without those that stand ahead."""
    kept = []
    for seed in seeds:
        if seed != blank(len(seed)) and seed not in kept:
            kept.append(seed)
    return kept


def told_places(signs):
    """The indexes of the cells of a lot, or of the cells that a row tells."""
    return [at for at, sign in enumerate(signs) if sign != "."]


def places_of(band, names):
    """The indexes of the cells with such names, in the order of the names."""
    every = band.names()
    return [every.index(name) for name in names]


def check_some_lot(band, lot):
    """Raises BadLot for any value that is no lot of the band, and for nothing."""
    if lot not in band.lots()[1:]:
        raise BadLot(lot)


class Band:
    """The rows that come from seeds by laying rows over one another. A band never changes."""

    def __init__(self, cells, seeds, *, most=MOST_ROWS):
        check_cells(cells)
        check_seeds(cells, seeds)
        check_told(cells, seeds)
        if not is_number(most, 1, MOST_ROWS):
            raise BadNumber(most)
        rows = made_rows(len(cells), seeds, most)
        if len(rows) > most:
            raise TooMany(most)
        self._cells = list(cells)
        self._seeds = list(seeds)
        self._rows = rows
        self._known = {row: True for row in rows}
        self._lots = ordered_lots([lot_of(row) for row in rows])

    def cells(self):
        """The list of the cells."""
        return list(self._cells)

    def seeds(self):
        """The list of the seeds, as they were given."""
        return list(self._seeds)

    def names(self):
        """The list of the names of the cells."""
        return [name for name, _ in self._cells]

    def rows(self):
        """The ascending list of the rows."""
        return list(self._rows)

    def full_rows(self):
        """The ascending list of the full rows."""
        return [row for row in self._rows if "." not in row]

    def lots(self):
        """The list of the lots, in the order of lots."""
        return list(self._lots)

    @property
    def size(self):
        """The number of cells."""
        return len(self._cells)

    def blank_row(self):
        """The row that tells no cell."""
        return blank(len(self._cells))

    def come(self, row, *, seeds=None):
        """The paper of the package for a row, by the seeds of the band or by another list of rows."""
        return come(self._cells, self._seeds if seeds is None else seeds, row)

    def made_of(self, row):
        """The seeds that the paper for a row takes, the first one taken first."""
        self.check_row(row)
        return [line[1] for line in self.come(row) if line[0] == "take"]

    def check_row(self, row):
        """Raises the errors of a row."""
        if not is_row(self._cells, row):
            raise BadRow(row)
        if row not in self._known:
            raise NotInBand(row)

    def with_seed(self, seed):
        """The band with one more seed behind the others."""
        return Band(self._cells, [*self._seeds, seed])

    def without_seed(self, seed):
        """The band without one of its seeds."""
        if seed not in self._seeds:
            raise BadSeed(-1)
        return Band(self._cells, [kept for kept in self._seeds if kept != seed])

    def inside(self, lot):
        """The band within a lot."""
        check_some_lot(self, lot)
        return self._at(told_places(lot), [seed for seed in self._seeds if within(lot_of(seed), lot)])

    def onto(self, cells):
        """The band onto the cells with the names in a list."""
        if not isinstance(cells, (list, tuple)) or len(cells) == 0:
            raise BadCells(-1)
        names = self.names()
        for at, name in enumerate(cells):
            if name not in names or name in cells[:at]:
                raise UnknownCell(name)
        return self._at([at for at, name in enumerate(names) if name in cells], self._seeds)

    def above(self, row):
        """The band above a row that is not full: the band onto the cells that it does not tell."""
        self.check_row(row)
        if "." not in row:
            raise IsFull(row)
        return self._at([at for at, sign in enumerate(row) if sign == "."], self._seeds)

    def _at(self, places, seeds):
        """The band of the cells at some indexes, whose seeds are the signs of rows there."""
        cells = [self._cells[place] for place in places]
        return Band(cells, first_seeds([cut(seed, places) for seed in seeds]))

    def __mul__(self, other):
        if not isinstance(other, Band):
            return NotImplemented
        names = self.names()
        for at, name in enumerate(other.names()):
            if name in names:
                raise BadCells(len(names) + at)
        seeds = [seed + other.blank_row() for seed in self._seeds]
        seeds.extend([self.blank_row() + seed for seed in other.seeds()])
        return Band(self._cells + other.cells(), seeds)

    def __contains__(self, x):
        return isinstance(x, str) and x in self._known

    def same_rows(self, other):
        """Whether another band has the same cells and the same rows."""
        return self._cells == other._cells and self._rows == other._rows

    def __eq__(self, other):
        return isinstance(other, Band) and self._cells == other._cells and self._seeds == other._seeds

    def __len__(self):
        return len(self._rows)

    def __repr__(self):
        return f"Band({len(self._cells)} cells, {len(self._rows)} rows)"

    def text(self):
        """A line for each cell, and then one for each seed."""
        return text_of_band(self._cells, self._seeds)

    def __str__(self):
        return str(self.text())

    @staticmethod
    def read(text):
        """The band with a text."""
        if not isinstance(text, str):
            raise InvalidText(0, "form")
        lines = lines_of(text)
        cells = cells_from(lines, 0)
        seeds = rows_from(lines, len(cells), "seed") if len(cells) > 0 else []
        end = len(cells) + len(seeds)
        if end == len(lines) and len(seeds) == 0:
            raise InvalidText(end, "missing")
        if len(seeds) > 0:
            band = band_or_none(cells, seeds)
            if band is None:
                raise InvalidText(0, "band")
            if end == len(lines):
                return band
        raise InvalidText(end, "form")


def band_or_none(cells, seeds):
    """The band with such cells and seeds, None if the constructor refuses them."""
    try:
        return Band(cells, seeds)
    except TellsError:
        return None
