"""The text of a band: its cell lines and seed lines, written and read."""

from newesttells.words import is_name

MANY_WORDS = ("1", "2", "3", "4")
ROW_SIGNS = ".0123"


def text_of_band(cells, seeds):
    """The text of a band with such cells and seeds."""
    lines = [f"cell {name} {many}\n" for name, many in cells]
    lines.extend([f"seed {seed}\n" for seed in seeds])
    return "".join(lines)


def lines_of(text):
    """The lines of a text, each with its line feed; what stands behind the last line feed is a line without one."""
    pieces = text.split("\n")
    lines = [f"{piece}\n" for piece in pieces[:-1]]
    if pieces[-1] != "":
        lines.append(pieces[-1])
    return lines


def words_of(line):
    """The words of a line, the empty list if the line lacks its line feed."""
    return line[:-1].split(" ") if line.endswith("\n") else []


def is_row_word(word):
    """Whether a word has dots and digits from 0 to 3 alone."""
    return len(word) > 0 and all([sign in ROW_SIGNS for sign in word])


def cell_in(line):
    """The cell of a cell line, None for another line."""
    words = words_of(line)
    if len(words) != 3 or words[0] != "cell" or not is_name(words[1]) or words[2] not in MANY_WORDS:
        return None
    return words[1], int(words[2])


def row_in(line, first):
    """The row of a line of a first word and a row, None for another line."""
    words = words_of(line)
    if len(words) != 2 or words[0] != first or not is_row_word(words[1]):
        return None
    return words[1]


def cells_from(lines, start):
    """The cells of the cell lines that stand in a row from an index on."""
    cells = []
    for line in lines[start:]:
        cell = cell_in(line)
        if cell is None:
            return cells
        cells.append(cell)
    return cells


def rows_from(lines, start, first):
    """The rows of the lines with a first word that stand in a row from an index on."""
    rows = []
    for line in lines[start:]:
        row = row_in(line, first)
        if row is None:
            return rows
        rows.append(row)
    return rows
