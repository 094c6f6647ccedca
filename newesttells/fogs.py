"""Fogs: streams of which only the choices at each moment are known."""

from newesttells.bands import places_of
from newesttells.errors import BadCells, BadLayer, BadSaying, TooMany, UnknownCell
from newesttells.fittings import fitting_choices, fitting_histories, fitting_history, newest_fillings, ways_to
from newesttells.moments import check_moment
from newesttells.rows import DOT, cut, is_row
from newesttells.streams import Stream

MOST_LAYERS = 60
MOST_CHOICES = 8
MOST_ASKED = 3
MOST_HISTORIES = 5000


def are_choices(value, rows):
    """Whether any value is a list of one or more different members of a list of rows or of a band."""
    if not isinstance(value, (list, tuple)) or len(value) == 0:
        return False
    return all([choice in rows and choice not in value[:at] for at, choice in enumerate(value)])


def is_layer(band, value):
    """Whether any value is a list of the choices of a layer."""
    return are_choices(value, band) and len(value) <= MOST_CHOICES


def asked_places(band, cells):
    """The indexes of asked cells; raises the errors of any value that is no list of their names."""
    if not isinstance(cells, (list, tuple)) or len(cells) > MOST_ASKED:
        raise BadCells(-1)
    names = band.names()
    for at, name in enumerate(cells):
        if name not in names or name in cells[:at]:
            raise UnknownCell(name)
    return places_of(band, cells)


def check_saying(band, saying):
    """Raises BadSaying for any value that is no saying."""
    if not isinstance(saying, dict) or len(saying) > MOST_ASKED:
        raise BadSaying()
    cells = band.cells()
    names = band.names()
    for name, sign in saying.items():
        if name not in names or not is_row([cells[names.index(name)]], sign):
            raise BadSaying()


class Fog:
    """A list of layers of choices that can be told more, and whose past can be changed."""

    def __init__(self, band, layers=()):
        if len(layers) > MOST_LAYERS:
            raise TooMany(MOST_LAYERS)
        for at, choices in enumerate(layers):
            if not is_layer(band, choices):
                raise BadLayer(at)
        self.band = band
        self._layers = [list(choices) for choices in layers]

    def layers(self):
        """The list of the lists of choices, from the oldest on."""
        return [list(choices) for choices in self._layers]

    def tell(self, choices):
        """Adds a layer at the end; returns the number of layers."""
        if len(self._layers) == MOST_LAYERS:
            raise TooMany(MOST_LAYERS)
        if not is_layer(self.band, choices):
            raise BadLayer(-1)
        self._layers.append(list(choices))
        return len(self._layers)

    def put(self, choices, *, behind):
        """Puts a layer behind a moment, or ahead of all moments with behind=0."""
        if not is_layer(self.band, choices):
            raise BadLayer(-1)
        check_moment(behind, 0, len(self._layers))
        if len(self._layers) == MOST_LAYERS:
            raise TooMany(MOST_LAYERS)
        self._layers.insert(behind, list(choices))

    def take(self, moment):
        """Removes the layer at a moment and returns the list of its choices."""
        check_moment(moment, 1, len(self._layers))
        return self._layers.pop(moment - 1)

    def narrow(self, moment, choices):
        """Replaces the choices at a moment by some of them, in the given order."""
        check_moment(moment, 1, len(self._layers))
        if not are_choices(choices, self._layers[moment - 1]):
            raise BadLayer(-1)
        self._layers[moment - 1] = list(choices)

    def table(self, cells):
        """For each number of newest layers, the ascending fillings of some cells that they can leave."""
        return newest_fillings(self._layers, asked_places(self.band, cells))

    def together(self, cells):
        """The ascending fillings of some cells that the standings of histories can have."""
        return self.table(cells)[-1]

    def possible(self, cell):
        """The ascending signs that the standings of histories can have at a cell, as a string."""
        return "".join(self.together([cell]))

    def sure(self):
        """The sign of the standings of all histories at each cell, a question mark where they have unlike ones."""
        signs = [self.possible(name) for name in self.band.names()]
        return "".join([sign if len(sign) == 1 else "?" for sign in signs])

    def _ways(self, saying):
        """The indexes of the cells of a saying, and the ways to it; raises BadSaying."""
        check_saying(self.band, saying)
        asked = [name for name in self.band.names() if name in saying]
        places = places_of(self.band, asked)
        return places, ways_to(self._layers, places, "".join([saying[name] for name in asked]))

    def how_many(self, saying):
        """The number of the histories that fit a saying."""
        places, ways = self._ways(saying)
        return ways[0][DOT * len(places)]

    def left(self, saying):
        """A list for each layer: the choices that a history that fits a saying has there."""
        places, ways = self._ways(saying)
        return fitting_choices(self._layers, places, ways)

    def history(self, saying):
        """The list of the rows of a history that fits a saying, None if there is none."""
        places, ways = self._ways(saying)
        return fitting_history(self._layers, places, ways)

    def histories(self, saying):
        """Generates the lists of the rows of all histories that fit a saying."""
        places, ways = self._ways(saying)
        if ways[0][DOT * len(places)] > MOST_HISTORIES:
            raise TooMany(MOST_HISTORIES)
        found = fitting_histories(self._layers, places, ways)
        yield from found

    def stream(self):
        """The stream of a fog whose layers have one choice each."""
        for at, choices in enumerate(self._layers):
            if len(choices) > 1:
                raise BadLayer(at)
        return Stream(self.band, [choices[0] for choices in self._layers])

    def onto(self, cells):
        """A new fog with the signs at the cells with the names in a list alone."""
        band = self.band.onto(cells)
        places = places_of(self.band, band.names())
        return Fog(band, [first_cuts(choices, places) for choices in self._layers])

    def twin(self):
        """An independent fog with the same layers."""
        return Fog(self.band, self._layers)

    def __eq__(self, other):
        return isinstance(other, Fog) and self.band == other.band and self._layers == other._layers

    def __len__(self):
        return len(self._layers)

    def __bool__(self):
        return True

    def __repr__(self):
        return f"Fog({len(self._layers)} layers)"


def first_cuts(choices, places):
    """The different signs at some indexes, each where the first choice with them stood."""
    kept = []
    for choice in choices:
        signs = cut(choice, places)
        if signs not in kept:
            kept.append(signs)
    return kept


def fog_of(stream):
    """The fog with one choice for each moment of a stream."""
    if len(stream) > MOST_LAYERS:
        raise TooMany(MOST_LAYERS)
    return Fog(stream.band, [[row] for row in stream.rows()])
