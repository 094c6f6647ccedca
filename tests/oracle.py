"""Slow answers straight from the words of the document, and bands to try them on."""

import itertools
import random

from newesttells.bands import Band
from newesttells.errors import TellsError


def over(newer, older):
    return "".join(x if x != "." else y for x, y in zip(newer, older))


def lot_of(row):
    return "".join("." if sign == "." else "+" for sign in row)


def inside(one, other):
    return all(y == "+" for x, y in zip(one, other) if x == "+")


def lot_key(lot):
    return lot.count("+"), lot


def all_rows(cells):
    return ["".join(signs) for signs in itertools.product(*["." + "0123"[:many] for _, many in cells])]


def closure(many, seeds):
    """The blank row and all rows that come from seeds, by laying every row over every other one."""
    rows = {"." * many, *seeds}
    while True:
        further = {over(x, y) for x in rows for y in rows} - rows
        if not further:
            return sorted(rows)
        rows |= further


def laid_closure(many, seeds):
    """The same rows as closure, by laying seeds over rows, for many rows."""
    rows, waiting = {"." * many}, ["." * many]
    while waiting:
        row = waiting.pop()
        for further in {over(seed, row) for seed in seeds} - rows:
            rows.add(further)
            waiting.append(further)
    return sorted(rows)


def random_cells(source, most_cells=4, most_values=3):
    names = "dbacefgh"
    return [(names[at], source.randint(1, most_values)) for at in range(source.randint(1, most_cells))]


def random_row(source, cells, gap=0.5):
    return "".join("." if source.random() < gap else str(source.randrange(many)) for _, many in cells)


def random_bands(seed, count, most_cells=4, most_values=3, most_seeds=5):
    """A list of small bands, the same ones for the same seed."""
    source = random.Random(seed)
    bands = []
    while len(bands) < count:
        cells = random_cells(source, most_cells, most_values)
        seeds = [random_row(source, cells) for _ in range(source.randint(1, most_seeds))]
        try:
            bands.append(Band(cells, seeds))
        except TellsError:
            continue
    return bands


def classes_of(rows, lot):
    """The first classes of [10] for a lot of the band with such rows, from its words alone."""
    members = sorted(row for row in rows if lot_of(row) == lot)
    smaller = [row for row in rows if lot_of(row) != lot and inside(lot_of(row), lot)]
    reach = {(b, b) for b in members} | {(b, over(y, b)) for b in members for y in smaller}
    for middle in members:
        for start in members:
            if (start, middle) in reach:
                reach |= {(start, end) for end in members if (middle, end) in reach}
    made = set(closure(len(lot), smaller))
    found = []
    for b in members:
        group = [c for c in members if (b, c) in reach and (c, b) in reach]
        led_to = any((d, c) in reach for c in group for d in members if d not in group)
        if not led_to and not made & set(group) and group not in found:
            found.append(group)
    return sorted(found)


def seeds_of(rows):
    """The fewest seeds of the band with such rows."""
    found = []
    for lot in sorted({lot_of(row) for row in rows}, key=lot_key)[1:]:
        found.extend(sorted(group[0] for group in classes_of(rows, lot)))
    return found


def line_holds(cells, seeds, paper, at):
    """Whether the line of a paper at an index holds, where all lines ahead do."""
    line, ahead = paper[at], paper[:at]
    if not isinstance(line, tuple) or not line or not isinstance(line[0], str):
        return False
    if at == 0:
        return len(line) == 2 and line[0] == "row" and line[1] in all_rows(cells)
    row = paper[0][1]
    told = {place for word in ahead if word[0] == "take" for place, sign in enumerate(word[1]) if sign != "."}
    bars = [word for word in ahead if word[0] == "bar"]
    open_seeds = [seed for seed in seeds if any(sign != "." and k not in told for k, sign in enumerate(seed))]
    complete = told == {place for place, sign in enumerate(row) if sign != "."}
    if ahead[-1][0] in ("made", "barred"):
        return False
    if line[0] == "take" and len(line) == 2 and not bars:
        return line[1] in open_seeds and all(row[k] == sign for k, sign in enumerate(line[1])
                                             if sign != "." and k not in told)
    if line[0] == "bar" and len(line) == 3 and len(bars) < len(open_seeds) and line[1] == open_seeds[len(bars)]:
        return any(line[2] == name for k, (name, _) in enumerate(cells)
                   if k not in told and line[1][k] != "." and line[1][k] != row[k])
    if line == ("made",):
        return complete and not bars
    return line == ("barred",) and not complete and len(bars) == len(open_seeds)


def look(cells, seeds, paper):
    if not isinstance(paper, (list, tuple)) or not paper:
        return 0
    for at in range(len(paper)):
        if not line_holds(cells, seeds, paper, at):
            return at
    return None if paper[-1] in (("made",), ("barred",)) else len(paper)


def tellers(rows):
    """The tellers of the window of all rows, newest first, as pairs (moment, row)."""
    found = []
    for moment in range(len(rows), 0, -1):
        newer = rows[moment:]
        if any(sign != "." and all(row[k] == "." for row in newer) for k, sign in enumerate(rows[moment - 1])):
            found.append((moment, rows[moment - 1]))
    return found
