"""Worths: the trace of a book, and how questions about drawn deeds come apart into pieces."""

from newesttells.codes import code_of, lot_bits, told_code
from newesttells.drawing import check_full, steady_shares
from newesttells.errors import BadQuestion
from newesttells.lots import plain_counts
from newesttells.powers import Powers
from newesttells.ratios import ratio, times, total
from newesttells.weighing import by_code, weight_within
from newesttells.words import is_integer


def check_question(band, question):
    """Raises BadQuestion for any value that does not give a number to each full row of a band."""
    rows = band.full_rows()
    if not isinstance(question, dict) or len(question) != len(rows):
        raise BadQuestion()
    if not all([row in question and is_integer(question[row]) for row in rows]):
        raise BadQuestion()


def counted_weights(book):
    """The pairs of the weight of all deeds within a lot and its plain count, for the lots with a plain count."""
    weights = by_code(book.weights())
    counts = plain_counts(book.band)
    return [(weight_within(weights, lot_bits(lot)), counts[lot]) for lot in counts if counts[lot] > 0]


def worth_weights(book):
    """A dict from the worths, ascending, as weights out of the faces of the book, to their multiplicities."""
    sums = {}
    for weight, count in counted_weights(book):
        sums[weight] = sums.get(weight, 0) + count
    return {weight: sums[weight] for weight in sorted(sums)}


def trace(book):
    """The sum of m(S) * v(S) ** t over all lots S."""
    return Powers([((count, 1), ratio(weight, book.faces)) for weight, count in worth_weights(book).items()])


def worths(book):
    """A dict from the worths to their multiplicities."""
    return {ratio(weight, book.faces): count for weight, count in worth_weights(book).items()}


class Leading:
    """Where deeds lead full rows: for each row, by its index, a dict from the indexes of the rows to which deeds that
    are not full lead it to their weights; and such a dict for the full deeds, which lead all rows alike."""

    def __init__(self, moves, stops):
        self.moves = moves
        self.stops = stops


def leading_of(book):
    """Where the deeds of a book lead the full rows of its band."""
    places = {code_of(row): at for at, row in enumerate(book.band.full_rows())}
    weights = book.weights()
    some = [(code_of(deed), ~told_code(deed), weights[deed]) for deed in weights if "." in deed]
    stops = {places[code_of(deed)]: weights[deed] for deed in weights if "." not in deed}
    return Leading([moves_from(code, some, places) for code in places], stops)


def moves_from(code, deeds, places):
    """A dict from the indexes of the rows to which deeds, given with the bits that they leave, lead a row to their
    weights."""
    moves = {}
    for signs, left, weight in deeds:
        then = places[signs | (code & left)]
        moves[then] = moves.get(then, 0) + weight
    return moves


def led_on(leading, values, weight):
    """For each full row, the sum of the weights of all deeds times the values where they lead, less a weight times
    its own value. The piece for this weight becomes 0."""
    stopped = sum([many * values[then] for then, many in leading.stops.items()])
    return [stopped + sum([many * values[then] for then, many in moves.items()]) - weight * value
            for moves, value in zip(leading.moves, values)]


def apart(leading, values, weights):
    """The list of the pairs (weight, values) of the pieces, where each piece is multiplied with the differences of
    its weight and all other ones. Halving keeps the steps few, and whole numbers need no division."""
    if len(weights) == 1:
        return [(weights[0], values)]
    found = []
    middle = len(weights) // 2
    for kept, others in ((weights[:middle], weights[middle:]), (weights[middle:], weights[:middle])):
        rest = values
        for weight in others:
            rest = led_on(leading, rest, weight)
        if any(rest):
            found.extend(apart(leading, rest, kept))
    return found


def differences(weight, weights):
    """The product of the differences of a weight and all other ones."""
    product = 1
    for other in weights:
        if other != weight:
            product = product * (weight - other)
    return product


def pieces(book, question):
    """A dict from the v of the pieces of a question to the pieces."""
    check_question(book.band, question)
    rows = book.band.full_rows()
    weights = list(worth_weights(book))
    found = {}
    for weight, values in apart(leading_of(book), [question[row] for row in rows], weights):
        if any(values):
            scale = differences(weight, weights)
            found[ratio(weight, book.faces)] = {row: ratio(value, scale) for row, value in zip(rows, values)}
    return found


def mean_powers(book, question, row):
    """The sum of powers of the mean of a question behind t drawn deeds from a full row."""
    check_question(book.band, question)
    check_full(book.band, row)
    return Powers([(piece[row], v) for v, piece in pieces(book, question).items()])


def steady_mean(book, question):
    """The sum of the numbers of a question times the steady shares."""
    check_question(book.band, question)
    return total([times((question[row], 1), share) for row, share in steady_shares(book).items()])
