"""Books of shares: weights of rows, what drawn deeds leave, and books from books."""

from math import gcd

from newesttells.bands import places_of
from newesttells.codes import code_of, lot_bits
from newesttells.errors import BadLot, BadNumber, BadRatio, BadWeights, TooMany, Untold
from newesttells.lots import signed_counts
from newesttells.passing import power_terms
from newesttells.powers import MOST_T, Powers
from newesttells.ratios import ONE, ZERO, less, minus, number_raised, raised, ratio
from newesttells.rows import cut, is_lot
from newesttells.weighing import Weights, by_code, by_row, drawn_weights, laid_weights, weight_within
from newesttells.words import digits_of, is_number, is_ratio

MOST_WEIGHT = 999


def are_weights(band, value):
    """Whether any value is a dict of weights for some rows of a band."""
    if not isinstance(value, dict) or len(value) == 0:
        return False
    return all([row in band and is_number(weight, 1, MOST_WEIGHT) for row, weight in value.items()])


def lowest(weights):
    """Weights, with their rows ascending, divided by their greatest common divisor."""
    shared = 0
    for weight in weights.values():
        shared = gcd(shared, weight)
    return {row: weights[row] // shared for row in sorted(weights)}


def check_all_told(book):
    """Raises Untold with the first cell that a book does not tell."""
    untold = book.untold()
    if len(untold) > 0:
        raise Untold(untold[0])


def check_t(t):
    """Raises BadNumber for any value that is no number of drawn deeds."""
    if not is_number(t, 0, MOST_T):
        raise BadNumber(t)


class Book:
    """Weights for some rows of a band, its deeds. A book never changes."""

    def __init__(self, band, weights):
        if isinstance(weights, Weights):
            kept = lowest(weights.checked)
        elif are_weights(band, weights):
            kept = lowest(weights)
        else:
            raise BadWeights()
        self.band = band
        self._weights = kept
        self._faces = sum(kept.values())

    @property
    def faces(self):
        """The sum of the weights."""
        return self._faces

    def weights(self):
        """The dict from the deeds, ascending, to their weights."""
        return dict(self._weights)

    def deeds(self):
        """The ascending list of the deeds."""
        return list(self._weights)

    def share(self, row):
        """The share of a row, 0 if it is no deed."""
        self.band.check_row(row)
        return ratio(self._weights.get(row, 0), self._faces)

    def share_within(self, lot):
        """The sum of the shares of all deeds whose lots are within a lot."""
        if not is_lot(self.band.cells(), lot):
            raise BadLot(lot)
        return ratio(weight_within(by_code(self._weights), lot_bits(lot)), self._faces)

    def untold(self):
        """The list of the names of the cells that no deed tells."""
        return [name for at, name in enumerate(self.band.names()) if all([row[at] == "." for row in self._weights])]

    def powers(self, row):
        """The sum of powers of the chance that t drawn deeds leave a row."""
        self.band.check_row(row)
        return Powers(power_terms(by_code(self._weights), self._faces, code_of(row)))

    def after(self, t):
        """A dict from the rows that t drawn deeds can leave to their chances."""
        check_t(t)
        cases = number_raised(self._faces, t)
        left = by_row(self.band, drawn_weights(by_code(self._weights), t))
        return {row: ratio(weight, cases) for row, weight in left.items()}

    def all_told(self):
        """The sum of powers of the chance that t drawn deeds tell all cells."""
        weights = by_code(self._weights)
        return Powers([((count, 1), ratio(weight_within(weights, lot_bits(lot)), self._faces))
                       for lot, count in signed_counts(self.band).items()])

    def mean_told(self):
        """The mean of the least t at which all cells are told."""
        check_all_told(self)
        return (Powers([(ONE, ONE)]) - self.all_told()).sum_of_all()

    def least_told(self, chance):
        """The least t such that t drawn deeds tell all cells with at least a chance."""
        if not is_ratio(chance) or not less(ZERO, chance) or not less(chance, ONE):
            raise BadRatio(chance)
        check_all_told(self)
        powers = self.all_told()
        if less(powers.value_at(MOST_T), chance):
            raise TooMany(MOST_T)
        # The chance never gets less with more deeds, so that halving finds the place; 0 deeds tell no cell.
        below = 0
        enough = MOST_T
        while enough - below > 1:
            middle = (below + enough) // 2
            if less(powers.value_at(middle), chance):
                below = middle
            else:
                enough = middle
        return enough

    def and_then(self, other):
        """The book of one deed of this book and then one of another book."""
        weights = laid_weights(by_code(other.weights()), by_code(self._weights))
        return Book(self.band, Weights(by_row(self.band, weights)))

    def mixed(self, other, *, mine=1, theirs=1):
        """The book of deeds of this book and of another one, mixed with two numbers."""
        for part in (mine, theirs):
            if not is_number(part, 1, MOST_WEIGHT):
                raise BadNumber(part)
        weights = {row: mine * other.faces * weight for row, weight in self._weights.items()}
        for row, weight in other.weights().items():
            weights[row] = weights.get(row, 0) + theirs * self._faces * weight
        return Book(self.band, Weights(weights))

    def onto(self, cells):
        """The book of the signs of the deeds at the cells with the names in a list."""
        band = self.band.onto(cells)
        places = places_of(self.band, band.names())
        weights = {}
        for row, weight in self._weights.items():
            signs = cut(row, places)
            weights[signs] = weights.get(signs, 0) + weight
        return Book(band, Weights(weights))

    def distance(self, one, other, t):
        """The distance of two beginnings after t deeds."""
        self._check_beginnings(one, other, t)
        left = drawn_weights(by_code(self._weights), t)
        differences = laid_weights(left, {code_of(one): 1})
        for code, weight in laid_weights(left, {code_of(other): 1}).items():
            differences[code] = differences.get(code, 0) - weight
        apart = sum([abs(difference) for difference in differences.values()])
        return ratio(apart, 2 * number_raised(self._faces, t))

    def least_distance(self, one, other, t):
        """The greatest lower bound of the distance by a single cell with unlike signs."""
        self._check_beginnings(one, other, t)
        least = ZERO
        for at in unlike_places(one, other):
            lot = "".join(["." if place == at else "+" for place in range(self.band.size)])
            bound = raised(self.share_within(lot), t)
            if less(least, bound):
                least = bound
        return least

    def most_distance(self, one, other, t):
        """The upper bound: the chance that t deeds do not tell all cells with unlike signs."""
        self._check_beginnings(one, other, t)
        names = self.band.names()
        unlike = [names[at] for at in unlike_places(one, other)]
        if len(unlike) == 0:
            return ZERO
        return minus(ONE, self.onto(unlike).all_told().value_at(t))

    def _check_beginnings(self, one, other, t):
        """Raises the errors of two beginnings and of a number of drawn deeds."""
        self.band.check_row(one)
        self.band.check_row(other)
        check_t(t)

    def __eq__(self, other):
        return isinstance(other, Book) and self.band == other.band and self._weights == other._weights

    def __len__(self):
        return len(self._weights)

    def __repr__(self):
        return f"Book({len(self._weights)} deeds, {digits_of(self._faces)} faces)"


def unlike_places(one, other):
    """The indexes of the cells at which two rows have unlike signs."""
    return [at for at, sign in enumerate(one) if sign != other[at]]


def even_book(band):
    """The book in which each seed of a band has the weight 1."""
    return Book(band, {seed: 1 for seed in band.seeds()})
