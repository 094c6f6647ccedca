"""Rows and lots as numbers, for the questions that compare very many of them.

The code of a row has an octal digit for each cell: 0 for a dot, and 4 and the value for a value.
"""

# The codes of rows with all of twelve cells told have these bits, whatever the values are.
TOLD_BITS = 0o444444444444


def code_of(row):
    """The code of a row with at least one cell."""
    return int(row.translate({46: "0", 48: "4", 49: "5", 50: "6", 51: "7"}), 8)


def told_code(row):
    """All bits of the cells that a row with at least one cell tells."""
    return int(row.translate({46: "0", 48: "7", 49: "7", 50: "7", 51: "7"}), 8)


def lot_code(lot):
    """A bit for each cell of a lot."""
    return int(lot.translate({43: "1", 46: "0"}), 2)


def told_bits(code):
    """All bits of the cells that the row with a code tells."""
    told = code & TOLD_BITS
    return told | told >> 1 | told >> 2


def lot_bits(lot):
    """All bits of the cells of a lot."""
    return int(lot.translate({43: "7", 46: "0"}), 8)
