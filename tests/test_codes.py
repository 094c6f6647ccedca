"""Rows and lots as numbers (newesttells/codes.py), which lots, families and books count with."""

import itertools
import unittest

import oracle
from newesttells.codes import code_of, lot_bits, lot_code, told_bits, told_code

ROWS = ["".join(signs) for signs in itertools.product(".0123", repeat=3)]


class CodeTest(unittest.TestCase):
    def test_different_rows_have_different_codes(self):
        self.assertEqual(len({code_of(row) for row in ROWS}), len(ROWS))
        self.assertEqual([code_of("..."), code_of("..0"), code_of("3..")], [0, 0o4, 0o700])

    def test_over(self):
        for one, other in itertools.product(ROWS, ROWS):
            self.assertEqual(code_of(oracle.over(one, other)), code_of(one) | code_of(other) & ~told_code(one))

    def test_told_bits(self):
        for row in ROWS:
            self.assertEqual([told_code(row), lot_bits(oracle.lot_of(row))], [told_bits(code_of(row))] * 2)
        self.assertEqual(told_bits(code_of("3" * 12)), 8 ** 12 - 1)
        self.assertEqual(told_bits(code_of("0" * 12)), 8 ** 12 - 1)

    def test_lots(self):
        self.assertEqual([lot_code("..+"), lot_code("++."), lot_code("...")], [1, 6, 0])
        self.assertEqual([lot_bits("..+"), lot_bits("++."), lot_bits("...")], [0o7, 0o770, 0])


if __name__ == "__main__":
    unittest.main()
