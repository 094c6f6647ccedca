"""Tapes of throws: which deeds they give, what their readings tell, and how many there are."""

from newesttells.books import check_t
from newesttells.drawing import check_full, full_ones
from newesttells.errors import BadNumber, BadTape, TooMany
from newesttells.ratios import number_raised, ratio
from newesttells.rows import over
from newesttells.weighing import by_code, by_row, drawn_weights, laid_weights
from newesttells.words import is_number

MOST_COUNTED = 60
MOST_LISTED = 6
MOST_TAPES = 5000


def deed_of(book, throw):
    """The deed that a throw gives."""
    if not is_number(throw, 0, book.faces - 1):
        raise BadNumber(throw)
    for deed, weight in book.weights().items():
        if throw < weight:
            break
        throw = throw - weight
    return deed


def check_tape(book, tape):
    """Raises BadTape for any value that is no list of throws of a book."""
    if not isinstance(tape, (list, tuple)):
        raise BadTape(-1)
    for at, throw in enumerate(tape):
        if not is_number(throw, 0, book.faces - 1):
            raise BadTape(at)


def draw(book, tape, *, forward=False):
    """The full row that the reading of a tape tells and the number of throws read, None if it does not stop."""
    check_tape(book, tape)
    row = book.band.blank_row()
    for at, throw in enumerate(tape):
        deed = deed_of(book, throw)
        row = over(deed, row) if forward else over(row, deed)
        if "." not in row:
            return row, at + 1
    return None


def count_tapes(book, row, *, throws, forward=False):
    """The number of tapes with so many throws whose reading stops at the last one and tells a full row."""
    check_full(book.band, row)
    if not is_number(throws, 0, MOST_COUNTED):
        raise BadNumber(throws)
    if throws == 0:
        return 0
    weights = by_code(book.weights())
    # As many tapes leave a row when they are read backward as when they are read forward.
    left = by_row(book.band, drawn_weights(weights, throws - 1))
    waiting = by_code({under: weight for under, weight in left.items() if "." in under})
    told = laid_weights(weights, waiting) if forward else laid_weights(waiting, weights)
    return by_row(book.band, told).get(row, 0)


def tapes(book, *, throws):
    """Generates all tapes with so many throws whose reading stops at the last one, ascending."""
    if not is_number(throws, 0, MOST_LISTED):
        raise BadNumber(throws)
    if number_raised(book.faces, throws) > MOST_TAPES:
        raise TooMany(MOST_TAPES)
    for tape in stopping_tapes(book, throws):
        yield tape


def stopping_tapes(book, throws):
    """The ascending list of the tapes with so many throws whose reading stops at the last one."""
    if throws == 0:
        return []
    deeds = [deed_of(book, throw) for throw in range(book.faces)]
    begun = [([], book.band.blank_row())]
    for _ in range(throws - 1):
        longer = [([*tape, throw], over(row, deed)) for tape, row in begun for throw, deed in enumerate(deeds)]
        begun = [(tape, row) for tape, row in longer if "." in row]
    return [[*tape, throw] for tape, row in begun for throw, deed in enumerate(deeds) if "." not in over(row, deed)]


def deadline(book, throws):
    """A dict from the full rows to the chances that readings that stop within so many throws tell them."""
    check_t(throws)
    left = full_ones(book.band, drawn_weights(by_code(book.weights()), throws))
    every = sum(left.values())
    return {row: ratio(weight, every) for row, weight in left.items()}
