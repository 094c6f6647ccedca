"""The errors of the package. Each one keeps its values, and the name of its class as its code."""

# The messages do not show the values, because Python refuses to write very long numbers.


class TellsError(ValueError):
    """A wrong value, or something that cannot be."""


class Missing(LookupError):
    """Something that was asked for and is not there."""


class BadName(TellsError):
    def __init__(self, value):
        super().__init__("a value that must be a name is none")
        self.value = value
        self.code = "BadName"


class BadCells(TellsError):
    def __init__(self, at):
        super().__init__("the cells are wrong as a whole (-1), or one of them is")
        self.at = at
        self.code = "BadCells"


class BadSeed(TellsError):
    def __init__(self, at):
        super().__init__("the seeds are wrong as a whole (-1), or one of them is")
        self.at = at
        self.code = "BadSeed"


class BadRow(TellsError):
    def __init__(self, row):
        super().__init__("a value that must be a row for the cells is none")
        self.row = row
        self.code = "BadRow"


class BadLot(TellsError):
    def __init__(self, lot):
        super().__init__("a value that must be such a lot is none")
        self.lot = lot
        self.code = "BadLot"


class BadNumber(TellsError):
    def __init__(self, value):
        super().__init__("a value that must be such a number is none")
        self.value = value
        self.code = "BadNumber"


class BadRatio(TellsError):
    def __init__(self, value):
        super().__init__("a value that must be such a ratio is none")
        self.value = value
        self.code = "BadRatio"


class BadThings(TellsError):
    def __init__(self):
        super().__init__("a value that must be things or places is none")
        self.code = "BadThings"


class BadPiles(TellsError):
    def __init__(self):
        super().__init__("a value does not say how things lie")
        self.code = "BadPiles"


class BadTies(TellsError):
    def __init__(self, at):
        super().__init__("the ties are wrong as a whole (-1), or one of them is")
        self.at = at
        self.code = "BadTies"


class BadHeights(TellsError):
    def __init__(self):
        super().__init__("a value that must be heights is none")
        self.code = "BadHeights"


class BadLines(TellsError):
    def __init__(self, at):
        super().__init__("the lines are wrong as a whole (-1), or one of them is")
        self.at = at
        self.code = "BadLines"


class BadPoint(TellsError):
    def __init__(self):
        super().__init__("a value that must be a point is none")
        self.code = "BadPoint"


class TooMany(TellsError):
    def __init__(self, most):
        super().__init__("there are more than the most that are allowed")
        self.most = most
        self.code = "TooMany"


class Untold(TellsError):
    def __init__(self, cell):
        super().__init__("nothing tells a cell")
        self.cell = cell
        self.code = "Untold"


class NotFull(TellsError):
    def __init__(self, row):
        super().__init__("a row that must be full is not")
        self.row = row
        self.code = "NotFull"


class IsFull(TellsError):
    def __init__(self, row):
        super().__init__("a row that must not be full is")
        self.row = row
        self.code = "IsFull"


class NotClosed(TellsError):
    def __init__(self, one, other):
        super().__init__("one row over the other one is outside")
        self.one = one
        self.other = other
        self.code = "NotClosed"


class BadMoments(TellsError):
    def __init__(self, at):
        super().__init__("the moments are wrong as a whole (-1), or one of them is")
        self.at = at
        self.code = "BadMoments"


class BadLayer(TellsError):
    def __init__(self, at):
        super().__init__("a layer is wrong")
        self.at = at
        self.code = "BadLayer"


class BadSaying(TellsError):
    def __init__(self):
        super().__init__("a value that must be a saying is none")
        self.code = "BadSaying"


class BadWeights(TellsError):
    def __init__(self):
        super().__init__("a value that must be weights is none")
        self.code = "BadWeights"


class BadTape(TellsError):
    def __init__(self, at):
        super().__init__("the tape is wrong as a whole (-1), or a throw of it is")
        self.at = at
        self.code = "BadTape"


class BadQuestion(TellsError):
    def __init__(self):
        super().__init__("a value that must be a question is none")
        self.code = "BadQuestion"


class BadLumps(TellsError):
    def __init__(self):
        super().__init__("a value that must be lumps is none")
        self.code = "BadLumps"


class Broken(TellsError):
    def __init__(self, seed, one, other):
        super().__init__("a seed leads two rows of one lump to different lumps")
        self.seed = seed
        self.one = one
        self.other = other
        self.code = "Broken"


class BadPictures(TellsError):
    def __init__(self):
        super().__init__("a value that must be pictures is none")
        self.code = "BadPictures"


class NotMap(TellsError):
    def __init__(self, one, other):
        super().__init__("streams with one standing have pictures with two")
        self.one = one
        self.other = other
        self.code = "NotMap"


class Never(TellsError):
    def __init__(self, cell):
        super().__init__("no way unsays a cell")
        self.cell = cell
        self.code = "Never"


class TakenName(TellsError):
    def __init__(self, name):
        super().__init__("a label is taken")
        self.name = name
        self.code = "TakenName"


class InUse(TellsError):
    def __init__(self, name):
        super().__init__("a band is in use")
        self.name = name
        self.code = "InUse"


class BadDeed(TellsError):
    def __init__(self, at):
        super().__init__("a deed is wrong")
        self.at = at
        self.code = "BadDeed"


class InvalidText(TellsError):
    def __init__(self, line, why):
        super().__init__("a text is wrong in a line")
        self.line = line
        self.why = why
        self.code = "InvalidText"


class UnknownCell(Missing):
    def __init__(self, name):
        super().__init__("no cell has this name, or it stands ahead")
        self.name = name
        self.code = "UnknownCell"


class UnknownName(Missing):
    def __init__(self, name):
        super().__init__("no such label is kept")
        self.name = name
        self.code = "UnknownName"


class NotInBand(Missing):
    def __init__(self, row):
        super().__init__("a row is not one of the band")
        self.row = row
        self.code = "NotInBand"


class NoMoment(Missing):
    def __init__(self, moment):
        super().__init__("there is no such moment")
        self.moment = moment
        self.code = "NoMoment"


class NothingLeft(IndexError):
    def __init__(self):
        super().__init__("no step is left")
        self.code = "NothingLeft"
