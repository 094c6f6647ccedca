"""Maps: pictures of a band in another band that keep what lies over what."""

from newesttells.bands import places_of
from newesttells.errors import BadLot, BadPictures, NotMap
from newesttells.lots import first_rows
from newesttells.rows import cut, lot_of, over
from newesttells.streams import Stream


def check_pictures(band, other, pictures):
    """Raises BadPictures for any value that does not give a row of the other band to each seed of a band."""
    seeds = band.seeds()
    if not isinstance(pictures, dict) or len(pictures) != len(seeds):
        raise BadPictures()
    if not all([seed in pictures and pictures[seed] in other for seed in seeds]):
        raise BadPictures()


class Search:
    """What streams of seeds leave: a dict from the rows that were found to the standings of the pictures; and the first
    two streams that break a map, None if there are none."""

    def __init__(self, images, torn):
        self.images = images
        self.torn = torn


def search(band, other, pictures):
    """Lays each seed over each row of a band, row by row, until pictures break or all rows are done."""
    seeds = band.seeds()
    ways = {band.blank_row(): []}
    images = {band.blank_row(): other.blank_row()}
    fresh = [band.blank_row()]
    while len(fresh) > 0:
        found = []
        for row in fresh:
            for seed in seeds:
                further = over(seed, row)
                way = [*ways[row], seed]
                image = over(pictures[seed], images[row])
                if further not in ways:
                    ways[further] = way
                    images[further] = image
                    found.append(further)
                elif images[further] != image:
                    return Search(images, (ways[further], way))
        fresh = found
    return Search(images, None)


def map_break(band, other, pictures):
    """None if pictures make a map; otherwise two lists of seeds with one standing whose pictures have two."""
    check_pictures(band, other, pictures)
    return search(band, other, pictures).torn


class BandMap:
    """The pictures of all rows of a band in another band. A map never changes."""

    def __init__(self, band, other, pictures):
        check_pictures(band, other, pictures)
        found = search(band, other, pictures)
        if found.torn is not None:
            raise NotMap(found.torn[0], found.torn[1])
        self.band = band
        self.other = other
        self._pictures = {seed: pictures[seed] for seed in sorted(pictures)}
        self._images = found.images

    def pictures(self):
        """The dict from the seeds to their pictures."""
        return dict(self._pictures)

    def picture(self, row):
        """The picture of a row."""
        self.band.check_row(row)
        return self._images[row]

    def __call__(self, row):
        return self.picture(row)

    def picture_lot(self, lot):
        """The lot of the pictures of the rows with a lot."""
        if lot not in self.band.lots():
            raise BadLot(lot)
        # Rows with equal lots have pictures with equal lots.
        return lot_of(self._images[first_rows(self.band)[lot]])

    def picture_stream(self, stream):
        """A new stream of the other band, with the pictures of the rows of a stream."""
        return Stream(self.other, [self.picture(row) for row in stream.rows()])

    def followed_by(self, map_on):
        """The map that gives the picture, by another map, of the picture."""
        return BandMap(self.band, map_on.other, {seed: map_on.picture(row) for seed, row in self._pictures.items()})

    def __eq__(self, other):
        return (isinstance(other, BandMap) and self.band == other.band and self.other == other.other
                and self._pictures == other._pictures)

    def __repr__(self):
        return f"BandMap({len(self._pictures)} seeds)"


def onto_map(band, cells):
    """The map from a band to the band onto some cells, which keeps the signs there."""
    other = band.onto(cells)
    places = places_of(band, other.names())
    return BandMap(band, other, {seed: cut(seed, places) for seed in band.seeds()})
