"""Coming to a row: the seeds that make it, or the bars that keep it out, and the papers that show this."""

from newesttells.errors import BadRow
from newesttells.rows import blank, is_row, lot_of, union

LINE_SIZES = {"row": 2, "take": 2, "made": 1, "bar": 3, "barred": 1}


def outside(seed, told):
    """The indexes of the cells outside the told lot that a seed tells."""
    return [at for at, sign in enumerate(seed) if sign != "." and told[at] == "."]


def barring(seed, told, row):
    """The indexes of the cells outside the told lot that a seed tells and at which a row has another sign."""
    return [at for at in outside(seed, told) if row[at] != seed[at]]


def can_be_taken(seed, told, row):
    """Whether a seed can be taken for a row."""
    return len(outside(seed, told)) > 0 and len(barring(seed, told, row)) == 0


def next_taken(seeds, told, row):
    """The first seed that can be taken for a row, None if there is none."""
    for seed in seeds:
        if can_be_taken(seed, told, row):
            return seed
    return None


def taking(seeds, row):
    """The seeds that are taken for a row, the first one first, and the told lot at the end."""
    taken = []
    told = blank(len(row))
    seed = next_taken(seeds, told, row)
    while seed is not None:
        taken.append(seed)
        told = union(told, lot_of(seed))
        seed = next_taken(seeds, told, row)
    return taken, told


def tellers_outside(seeds, told):
    """The seeds, in order, that tell a cell outside the told lot."""
    return [seed for seed in seeds if len(outside(seed, told)) > 0]


def comes_to(seeds, row):
    """Whether the seeds make a row for their cells."""
    _, told = taking(seeds, row)
    return told == lot_of(row)


def come(cells, seeds, row):
    """The paper of the package for a row."""
    if not is_row(cells, row):
        raise BadRow(row)
    taken, told = taking(seeds, row)
    paper = [("row", row)]
    paper.extend([("take", seed) for seed in taken])
    if told == lot_of(row):
        paper.append(("made",))
        return paper
    for seed in tellers_outside(seeds, told):
        place = barring(seed, told, row)[0]
        paper.append(("bar", seed, cells[place][0]))
    paper.append(("barred",))
    return paper


def told_lot(cells, seeds, row):
    """The told lot at the end of coming to a row."""
    if not is_row(cells, row):
        raise BadRow(row)
    _, told = taking(seeds, row)
    return told


def is_made(cells, seeds, row):
    """Whether any value is a row that the seeds make."""
    return is_row(cells, row) and comes_to(seeds, row)


def word_of(line):
    """The first word of any value that has the form of a line of a paper, otherwise None."""
    if not isinstance(line, tuple) or len(line) == 0 or not isinstance(line[0], str):
        return None
    return line[0] if LINE_SIZES.get(line[0]) == len(line) else None


def follow_takes(seeds, row, paper):
    """The index of the first line behind the row line that is no right take line, and the told lot ahead of it."""
    told = blank(len(row))
    for at, line in enumerate(paper[1:], start=1):
        if word_of(line) != "take" or line[1] not in seeds or not can_be_taken(line[1], told, row):
            return at, told
        told = union(told, lot_of(line[1]))
    return len(paper), told


def bar_holds(cells, seed, told, row, line):
    """Whether a line is a right bar line for the seed whose turn it is."""
    if word_of(line) != "bar" or line[1] != seed:
        return False
    return line[2] in [cells[place][0] for place in barring(seed, told, row)]


def count_bars(cells, waiting, told, row, lines):
    """How many of the lines, from the first one on, are right bar lines for the waiting seeds in their order."""
    bars = 0
    for seed, line in zip(waiting, lines):
        if not bar_holds(cells, seed, told, row, line):
            return bars
        bars = bars + 1
    return bars


def look(cells, seeds, paper):
    """None if any value is a paper that holds; otherwise the index of its first line that does not hold, or the
    number of its lines if they all hold and the last one does not end a paper."""
    if not isinstance(paper, (list, tuple)) or len(paper) == 0:
        return 0
    if word_of(paper[0]) != "row" or not is_row(cells, paper[0][1]):
        return 0
    row = paper[0][1]
    at, told = follow_takes(seeds, row, paper)
    waiting = tellers_outside(seeds, told)
    bars = count_bars(cells, waiting, told, row, paper[at:])
    at = at + bars
    if at == len(paper):
        return at
    if told == lot_of(row):
        ends = bars == 0 and word_of(paper[at]) == "made"
    else:
        ends = bars == len(waiting) and word_of(paper[at]) == "barred"
    if not ends:
        return at
    return None if at + 1 == len(paper) else at + 1


def first_not_made(cells, rows, seeds):
    """The first row of a list that the seeds do not make, with its paper; None if there is none."""
    for row in rows:
        if not comes_to(seeds, row):
            return row, come(cells, seeds, row)
    return None


def first_difference(cells, one, other):
    """The first row of either list of seeds that the other list does not make, as (side, row, paper), or None."""
    for side, rows, seeds in ((0, one, other), (1, other, one)):
        found = first_not_made(cells, rows, seeds)
        if found is not None:
            return side, found[0], found[1]
    return None
