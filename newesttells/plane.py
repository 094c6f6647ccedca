"""Points of a plane with straight lines in it: one point of each spot, stretch and land.

A line is a tuple (a, b, c) with the points (x, y) for which a * x + b * y = c; coordinates are ratios.
"""

from newesttells.ratios import ONE, ZERO, divided, less, minus, ordered_ratios, plus, ratio, times

HALF = (1, 2)
BEYOND = (1, 1)


def excess_at(line, point):
    """What a * x + b * y is above c at a point."""
    a, b, c = line
    return minus(plus(times((a, 1), point[0]), times((b, 1), point[1])), (c, 1))


def sign_at(line, point):
    """The sign of the cell of a line at a point."""
    top, _ = excess_at(line, point)
    if top == 0:
        return "."
    return "1" if top > 0 else "0"


def row_at(lines, point):
    """The row of a point."""
    return "".join([sign_at(line, point) for line in lines])


def moved(point, direction, far):
    """The point that lies so many times a direction from a point."""
    return plus(point[0], times((direction[0], 1), far)), plus(point[1], times((direction[1], 1), far))


def foot_of(line):
    """The point of a line next to (0, 0)."""
    a, b, c = line
    square = a * a + b * b
    return ratio(a * c, square), ratio(b * c, square)


def along(line):
    """A direction in which a line goes."""
    return -line[1], line[0]


def rate_of(line, direction):
    """How much the value of a line grows with a step in a direction."""
    return line[0] * direction[0] + line[1] * direction[1]


def crossings(lines, line):
    """How far from its foot, ascending, a line meets other lines that do not go its way."""
    foot = foot_of(line)
    found = []
    for other in lines:
        rate = rate_of(other, along(line))
        if rate != 0:
            far = divided(minus(ZERO, excess_at(other, foot)), (rate, 1))
            if far not in found:
                found.append(far)
    return ordered_ratios(found)


def between(fars):
    """A ratio ahead of all of an ascending list, one between each two neighbours, and one behind all."""
    if len(fars) == 0:
        return [ZERO]
    middles = [times(plus(one, other), HALF) for one, other in zip(fars, fars[1:])]
    return [minus(fars[0], BEYOND), *middles, plus(fars[-1], BEYOND)]


def short_step(lines, point, direction):
    """How far one can go from a point in a direction without coming to a line that does not go through it."""
    step = ONE
    for line in lines:
        top, bottom = excess_at(line, point)
        rate = rate_of(line, direction)
        if top != 0 and rate != 0:
            half = ratio(abs(top), 2 * bottom * abs(rate))
            if less(half, step):
                step = half
    return step


def points_on(lines, line):
    """A point for each spot and each stretch on a line, and for each land beside it."""
    foot = foot_of(line)
    fars = crossings(lines, line)
    points = [moved(foot, along(line), far) for far in fars]
    for far in between(fars):
        point = moved(foot, along(line), far)
        points.append(point)
        for aside in ((line[0], line[1]), (-line[0], -line[1])):
            points.append(moved(point, aside, short_step(lines, point, aside)))
    return points


def points_by_row(lines):
    """A dict from the rows of all points to a point with each; each land lies beside some line."""
    found = {}
    for line in lines:
        for point in points_on(lines, line):
            found.setdefault(row_at(lines, point), point)
    return found


def goes_on(lines, row, direction):
    """Whether one can go from a point of a land in a direction without an end and stay in the land."""
    for line, sign in zip(lines, row):
        rate = rate_of(line, direction)
        if (rate > 0 and sign == "0") or (rate < 0 and sign == "1"):
            return False
    return True


def is_bounded(lines, row):
    """Whether a land is bounded. If one can go on without an end in it at all, one can do so along some line."""
    for line in lines:
        one, other = along(line)
        if goes_on(lines, row, (one, other)) or goes_on(lines, row, (-one, -other)):
            return False
    return True
