"""The interface under newesttells/errors.py."""

import inspect
import unittest

from newesttells import errors

OF_TELLS = {
    "BadName": ["value"], "BadCells": ["at"], "BadSeed": ["at"], "BadRow": ["row"], "BadLot": ["lot"],
    "BadNumber": ["value"], "BadRatio": ["value"], "BadThings": [], "BadPiles": [], "BadTies": ["at"],
    "BadHeights": [], "BadLines": ["at"], "BadPoint": [], "TooMany": ["most"], "Untold": ["cell"],
    "NotFull": ["row"], "IsFull": ["row"], "NotClosed": ["one", "other"], "BadMoments": ["at"],
    "BadLayer": ["at"], "BadSaying": [], "BadWeights": [], "BadTape": ["at"], "BadQuestion": [], "BadLumps": [],
    "Broken": ["seed", "one", "other"], "BadPictures": [], "NotMap": ["one", "other"], "Never": ["cell"],
    "TakenName": ["name"], "InUse": ["name"], "BadDeed": ["at"], "InvalidText": ["line", "why"],
}
OF_MISSING = {"UnknownCell": ["name"], "UnknownName": ["name"], "NotInBand": ["row"], "NoMoment": ["moment"]}
OF_INDEX = {"NothingLeft": []}


def groups():
    return [(errors.TellsError, OF_TELLS), (errors.Missing, OF_MISSING), (IndexError, OF_INDEX)]


class ErrorsTest(unittest.TestCase):
    def test_bases(self):
        self.assertEqual(errors.TellsError.__bases__, (ValueError,))
        self.assertEqual(errors.Missing.__bases__, (LookupError,))
        for base, table in groups():
            for name in table:
                self.assertEqual(getattr(errors, name).__bases__, (base,), name)

    def test_no_other_classes(self):
        found = {name for name, kind in vars(errors).items() if inspect.isclass(kind)}
        known = {"TellsError", "Missing"}
        for _, table in groups():
            known.update(table)
        self.assertEqual(found, known)

    def test_parameters_attributes_and_code(self):
        for _, table in groups():
            for name, parameters in table.items():
                kind = getattr(errors, name)
                self.assertEqual(list(inspect.signature(kind.__init__).parameters)[1:], parameters, name)
                self.check_values(kind, parameters, list(range(len(parameters))))

    def check_values(self, kind, parameters, values):
        for error in (kind(*values), kind(**dict(zip(parameters, values)))):
            self.assertEqual(error.code, kind.__name__)
            for parameter, value in zip(parameters, values):
                self.assertEqual(getattr(error, parameter), value)
            self.assertIsInstance(str(error), str)

    def test_any_values_are_kept(self):
        for value in (None, True, (1, [2]), {"a": 1}, 10 ** 5000):
            for kind in (errors.BadRow, errors.BadNumber, errors.NotInBand, errors.TooMany, errors.UnknownName):
                error = kind(value)
                self.assertIn(value, [kept for kept in vars(error).values() if kept is value])
                self.assertIsInstance(str(error), str)

    def test_two_errors_keep_their_own_values(self):
        one, other = errors.Untold("a"), errors.Untold("b")
        self.assertEqual((one.cell, other.cell), ("a", "b"))

    def test_caught_by_bases(self):
        with self.assertRaises(ValueError):
            raise errors.InvalidText(3, "form")
        with self.assertRaises(errors.Missing):
            raise errors.NoMoment(0)
        with self.assertRaises(LookupError):
            raise errors.NothingLeft()


if __name__ == "__main__":
    unittest.main()
