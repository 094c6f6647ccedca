"""What endless readings of drawn deeds tell: steady and forward shares, teller lists, visits and favour."""

from newesttells.books import check_all_told
from newesttells.codes import code_of
from newesttells.counts import steps_to
from newesttells.errors import BadDeed, IsFull, NotFull
from newesttells.passing import mean_visits, passing_shares
from newesttells.ratios import ONE, ZERO, divided, less, minus, plus, ratio, times
from newesttells.rows import blank, lot_of, over
from newesttells.weighing import by_code, by_row, laid_weights, steps_within


def check_full(band, row):
    """Raises the errors of a full row."""
    band.check_row(row)
    if "." in row:
        raise NotFull(row)


def full_ones(band, told):
    """What a dict tells of the codes of full rows, by these rows, ascending."""
    return {row: one for row, one in by_row(band, told).items() if "." not in row}


def steady_shares(book):
    """A dict from the full rows with a steady share above 0 to this share."""
    check_all_told(book)
    steps = steps_within(by_code(book.weights()), None)
    return full_ones(book.band, passing_shares(steps, book.faces))


def forward_shares(book):
    """A dict from the full rows with a forward share above 0 to this share."""
    check_all_told(book)
    weights = by_code(book.weights())
    shares = {}
    # A reading forward stops at a full row with a deed that lies on top of a row that is not full.
    for under, many in mean_visits(steps_within(weights, None), book.faces).items():
        for code, weight in laid_weights(weights, {under: 1}).items():
            shares[code] = plus(shares.get(code, ZERO), times(many, ratio(weight, book.faces)))
    return full_ones(book.band, shares)


def leading_deeds(book, goal):
    """A dict from the rows that can be read on the way to a full row to the ascending list of the pairs of a deed
    and the further row to which it leads, if other deeds lead from there to the full row."""
    deeds = book.deeds()
    steps = steps_to(goal, deeds)
    leading = {}
    for row in sorted(steps, key=lambda one: one.count(".")):
        pairs = [(deed, further) for deed, further in zip(deeds, steps[row]) if further in leading]
        # Rows that tell more cells stand ahead, so that a row leads to the goal exactly if some pair is here.
        if row == goal or len(pairs) > 0:
            leading[row] = pairs
    return leading


def lists_behind(leading, row, goal):
    """Generates the lists of deeds that lead from a row to the goal, ascending."""
    if row == goal:
        yield []
    else:
        for deed, further in leading.get(row, []):
            for rest in lists_behind(leading, further, goal):
                yield [deed, *rest]


def teller_lists(book, row):
    """Generates the teller lists of a full row, ascending."""
    check_all_told(book)
    check_full(book.band, row)
    leading = leading_deeds(book, row)
    start = blank(len(row))
    for deeds in lists_behind(leading, start, row):
        yield deeds


def product_of(book, deeds):
    """The product of a list of deeds, each of which tells a cell beyond those ahead of it."""
    check_all_told(book)
    known = book.deeds()
    product = ONE
    row = book.band.blank_row()
    for at, deed in enumerate(deeds):
        if deed not in known or over(row, deed) == row:
            raise BadDeed(at)
        leaving = minus(ONE, book.share_within(lot_of(row)))
        product = times(product, divided(book.share(deed), leaving))
        row = over(row, deed)
    return product


def visits(book, row):
    """The mean number of t at which t drawn deeds leave a row that is not full."""
    check_all_told(book)
    book.band.check_row(row)
    if "." not in row:
        raise IsFull(row)
    steps = steps_within(by_code(book.weights()), code_of(row))
    return mean_visits(steps, book.faces).get(code_of(row), ZERO)


def favour(book):
    """The pair of the least favoured and the least slighted row, None if there is none."""
    steady = steady_shares(book)
    forward = forward_shares(book)
    rows = book.band.full_rows()
    favoured = [row for row in rows if less(steady.get(row, ZERO), forward.get(row, ZERO))]
    slighted = [row for row in rows if less(forward.get(row, ZERO), steady.get(row, ZERO))]
    if len(favoured) == 0:
        return None
    return favoured[0], slighted[0]


def first_tellers(book):
    """A dict from the deeds that are not blank to the chance that they are the newest one that is not blank."""
    check_all_told(book)
    blank_row = book.band.blank_row()
    leaving = minus(ONE, book.share(blank_row))
    return {deed: divided(book.share(deed), leaving) for deed in book.deeds() if deed != blank_row}
