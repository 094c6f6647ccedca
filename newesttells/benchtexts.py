"""Benches read from their texts."""

from newesttells.bands import Band, band_or_none
from newesttells.bandtexts import cells_from, lines_of, rows_from, words_of
from newesttells.bench import bench_with
from newesttells.errors import InvalidText
from newesttells.shelves import MOST_LABELS, Held, Shelf
from newesttells.streams import MOST_MOMENTS, Stream
from newesttells.words import is_name


def labels_in(lines, at, first, many):
    """The names in the line at an index, if it has a first word and so many names behind it; otherwise None."""
    words = words_of(lines[at]) if at < len(lines) else []
    if len(words) != 1 + many or words[0] != first or not all([is_name(word) for word in words[1:]]):
        return None
    return words[1:]


def check_new(shelf, label, at):
    """Raises InvalidText if a label in the line at an index stands ahead, or would be one too many."""
    if label in shelf.kept or len(shelf.kept) == MOST_LABELS:
        raise InvalidText(at, "label")


def read_band(lines, at, shelf):
    """Puts the band with the band line at an index on a shelf; returns the index behind its last line."""
    label = labels_in(lines, at, "band", 1)[0]
    check_new(shelf, label, at)
    cells = cells_from(lines, at + 1)
    end = at + 1 + len(cells)
    seeds = rows_from(lines, end, "seed") if len(cells) > 0 else []
    if len(seeds) == 0:
        raise InvalidText(end, "missing" if end == len(lines) else "form")
    band = band_or_none(cells, seeds)
    if band is None:
        raise InvalidText(at, "band")
    shelf.kept[label] = band
    return end + len(seeds)


def read_stream(lines, at, shelf):
    """Puts the stream with the stream line at an index on a shelf; returns the index behind its last line."""
    label, home = labels_in(lines, at, "stream", 2)
    check_new(shelf, label, at)
    if home not in shelf.kept or not isinstance(shelf.kept[home], Band):
        raise InvalidText(at, "label")
    band = shelf.kept[home]
    rows = rows_from(lines, at + 1, "moment")
    for moment, row in enumerate(rows):
        if row not in band or moment == MOST_MOMENTS:
            raise InvalidText(at + 1 + moment, "moment")
    shelf.kept[label] = Held(Stream(band, rows), home)
    return at + 1 + len(rows)


def read_bench(text):
    """The bench with a text."""
    if not isinstance(text, str):
        raise InvalidText(0, "form")
    lines = lines_of(text)
    shelf = Shelf({})
    at = 0
    while labels_in(lines, at, "band", 1) is not None:
        at = read_band(lines, at, shelf)
    # Streams stand behind the first band at the earliest.
    while at > 0 and labels_in(lines, at, "stream", 2) is not None:
        at = read_stream(lines, at, shelf)
    if at < len(lines):
        raise InvalidText(at, "form")
    return bench_with(shelf)
