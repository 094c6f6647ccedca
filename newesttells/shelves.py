"""What a bench keeps by labels, the deeds that change it, and its text.

A shelf that is done is not changed any more: deeds are done on a further shelf, so that a bench can go back.
"""

from newesttells.bands import Band
from newesttells.errors import BadDeed, BadName, InUse, TakenName, TooMany, UnknownName
from newesttells.streams import Stream
from newesttells.words import is_name

MOST_LABELS = 12


class Held:
    """A stream and the label of its band."""

    def __init__(self, stream, home):
        self.its_stream = stream
        self.home = home


class Shelf:
    """A dict from labels, in the order in which they were kept, to bands and held streams; and a dict from the labels
    of the streams that belong to this shelf alone, so that deeds may change them."""

    def __init__(self, kept):
        self.kept = dict(kept)
        self.fresh = {}


def is_kept(shelf, label):
    """Whether any value is a label."""
    return isinstance(label, str) and label in shelf.kept


def band_on(shelf, label):
    """The band with a label."""
    if not is_kept(shelf, label) or not isinstance(shelf.kept[label], Band):
        raise UnknownName(label)
    return shelf.kept[label]


def held_on(shelf, label):
    """The held stream with a label."""
    if not is_kept(shelf, label) or not isinstance(shelf.kept[label], Held):
        raise UnknownName(label)
    return shelf.kept[label]


def stream_on(shelf, label):
    """The stream with a label, to be read."""
    return held_on(shelf, label).its_stream


def stream_to_change(shelf, label):
    """The stream with a label, to be changed; the one of an earlier shelf stays as it is."""
    held = held_on(shelf, label)
    if label not in shelf.fresh:
        held = Held(held.its_stream.twin(), held.home)
        shelf.kept[label] = held
        shelf.fresh[label] = True
    return held.its_stream


def check_free(shelf, label):
    """Raises the errors of any value that can be no new label."""
    if not is_name(label):
        raise BadName(label)
    if label in shelf.kept:
        raise TakenName(label)


def check_room(shelf):
    """Raises TooMany if there can be no further label."""
    if len(shelf.kept) >= MOST_LABELS:
        raise TooMany(MOST_LABELS)


def keep_band(shelf, deed):
    """Keeps a new band."""
    _, label, cells, seeds = deed
    check_free(shelf, label)
    band = Band(cells, seeds)
    check_room(shelf)
    shelf.kept[label] = band


def keep_stream(shelf, deed):
    """Keeps a new stream without moments."""
    _, label, home = deed
    check_free(shelf, label)
    band = band_on(shelf, home)
    check_room(shelf)
    shelf.kept[label] = Held(Stream(band), home)
    shelf.fresh[label] = True


def tell_row(shelf, deed):
    """Adds a row at the end of a stream."""
    _, label, row = deed
    stream_to_change(shelf, label).tell(row)


def put_row(shelf, deed):
    """Puts a row behind a moment of a stream."""
    _, label, row, behind = deed
    stream_to_change(shelf, label).put(row, behind=behind)


def take_moment(shelf, deed):
    """Takes a moment of a stream."""
    _, label, moment = deed
    stream_to_change(shelf, label).take(moment)


def exchange_moment(shelf, deed):
    """Exchanges a moment of a stream."""
    _, label, moment = deed
    stream_to_change(shelf, label).exchange(moment)


def set_moment(shelf, deed):
    """Sets a moment of a stream."""
    _, label, moment, row = deed
    stream_to_change(shelf, label).change(moment, row)


def drop_label(shelf, deed):
    """Drops a band or a stream."""
    _, label = deed
    if not is_kept(shelf, label):
        raise UnknownName(label)
    if label in [held.home for held in shelf.kept.values() if isinstance(held, Held)]:
        raise InUse(label)
    del shelf.kept[label]


SIZES = {"band": 4, "stream": 3, "tell": 3, "put": 4, "take": 3, "exchange": 3, "set": 4, "drop": 2}
ACTIONS = {"band": keep_band, "stream": keep_stream, "tell": tell_row, "put": put_row, "take": take_moment,
           "exchange": exchange_moment, "set": set_moment, "drop": drop_label}


def is_deed(value):
    """Whether any value is a tuple of one of the words and as many items as the word asks for."""
    if not isinstance(value, tuple) or len(value) == 0 or not isinstance(value[0], str):
        return False
    return SIZES.get(value[0]) == len(value)


def shelf_behind(shelf, deeds):
    """A further shelf, as it is behind some deeds."""
    for at, deed in enumerate(deeds):
        if not is_deed(deed):
            raise BadDeed(at)
    further = Shelf(shelf.kept)
    for deed in deeds:
        action = ACTIONS[deed[0]]
        action(further, deed)
    return further


def text_of_shelf(shelf):
    """The text of all bands, and then of all streams."""
    bands = [f"band {label}\n{band.text()}" for label, band in shelf.kept.items() if isinstance(band, Band)]
    streams = [text_of_held(label, held) for label, held in shelf.kept.items() if isinstance(held, Held)]
    return "".join([*bands, *streams])


def text_of_held(label, held):
    """The line of a stream, and one for each of its moments."""
    moments = [f"moment {row}\n" for row in held.its_stream.rows()]
    return "".join([f"stream {label} {held.home}\n", *moments])
