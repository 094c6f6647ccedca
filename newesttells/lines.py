"""Bands of lines in a plane: on which side of each line a point lies."""

from newesttells.errors import BadLines, BadPoint
from newesttells.families import band_of_rows, giver_of
from newesttells.plane import is_bounded, points_by_row, row_at
from newesttells.words import is_number, is_ratio

MOST_LINES = 5
MOST_FACTOR = 99
LINE_NAMES = "abcde"


def is_line(value):
    """Whether any value is a line."""
    if not isinstance(value, tuple) or len(value) != 3:
        return False
    if not all([is_number(factor, -MOST_FACTOR, MOST_FACTOR) for factor in value]):
        return False
    return value[0] != 0 or value[1] != 0


def same_points(one, other):
    """Whether two lines have the same points."""
    return all([one[i] * other[k] == one[k] * other[i] for i, k in ((0, 1), (0, 2), (1, 2))])


def check_lines(lines):
    """Raises BadLines for any value that is no list of lines with different points."""
    if not isinstance(lines, (list, tuple)) or not 1 <= len(lines) <= MOST_LINES:
        raise BadLines(-1)
    for at, line in enumerate(lines):
        if not is_line(line) or any([same_points(line, ahead) for ahead in lines[:at]]):
            raise BadLines(at)


def lines_band(lines):
    """The band of the rows of all points."""
    check_lines(lines)
    cells = [(name, 2) for name, _ in zip(LINE_NAMES, lines)]
    return band_of_rows(cells, list(points_by_row(lines)))


def is_point(value):
    """Whether any value is a pair of ratios."""
    return isinstance(value, tuple) and len(value) == 2 and is_ratio(value[0]) and is_ratio(value[1])


def line_row(lines, point):
    """The row of a point."""
    check_lines(lines)
    if not is_point(point):
        raise BadPoint()
    return row_at(lines, point)


def point_of(lines, row):
    """A point with a row."""
    check_lines(lines)
    return giver_of(points_by_row(lines), row)


def lands_of(lines, rows):
    """The ascending list of the rows of the bounded lands among the rows of all points."""
    return sorted([row for row in rows if "." not in row and is_bounded(lines, row)])


def parts_of_plane(lines):
    """The tuple of the numbers of spots, stretches, lands and bounded lands."""
    check_lines(lines)
    rows = list(points_by_row(lines))
    # A point on two lines or more is the only one that lies on them.
    dots = [row.count(".") for row in rows]
    spots = len([many for many in dots if many > 1])
    return spots, dots.count(1), dots.count(0), len(lands_of(lines, rows))


def bounded_lands(lines):
    """The ascending list of the rows of the bounded lands."""
    check_lines(lines)
    return lands_of(lines, list(points_by_row(lines)))
