"""Seed streams counted and numbered row by row, and the shortest ways from a row to another one."""

from newesttells.errors import BadNumber, BadSeed, Never, TooMany
from newesttells.rows import blank, laid, over
from newesttells.words import is_number

MOST_LENGTH = 60


def steps_to(goal, deeds):
    """A dict from the rows that can be read on the way to a goal, from the newest deed on, to lists with an item for
    each of the deeds: the row to which it leads, None if that lets the goal not come any more."""
    steps = {}
    waiting = [blank(len(goal))]
    while len(waiting) > 0:
        row = waiting.pop()
        if row not in steps:
            steps[row] = []
            for deed in deeds:
                further = over(row, deed)
                steps[row].append(further if over(further, goal) == goal else None)
            waiting.extend([further for further in steps[row] if further is not None])
    return steps


def ways_ahead(further_rows, ahead):
    """The numbers of ways to go on by each seed, where ahead tells them for the rows to which the seeds lead."""
    return [0 if further is None else ahead[further] for further in further_rows]


def ways_left(steps, goal, seeds):
    """For each number of seeds up to so many, a dict from rows to the number of lists of so many further, older seeds
    that lead from there to the goal."""
    ahead = {row: 1 if row == goal else 0 for row in steps}
    ways = [ahead]
    for _ in range(seeds):
        ahead = {row: sum(ways_ahead(steps[row], ahead)) for row in steps}
        ways.append(ahead)
    return ways


def check_length(band, row, seeds):
    """Raises the errors of a row, and BadNumber for any value that is no length of a seed stream."""
    band.check_row(row)
    if not is_number(seeds, 0, MOST_LENGTH):
        raise BadNumber(seeds)


def count_leaving(band, row, *, seeds):
    """The number of seed streams with so many seeds that leave a row."""
    check_length(band, row, seeds)
    return ways_left(steps_to(row, band.seeds()), row, seeds)[seeds][band.blank_row()]


def counts_by_tellers(steps, row, ahead):
    """For each number of tellers, the number of lists of seeds that lead on from a row, where ahead tells the same
    of all rows for lists with one seed less."""
    counts = [0 for _ in ahead[row]]
    for further in steps[row]:
        if further == row:
            counts = [many + more for many, more in zip(counts, ahead[row])]
        elif further is not None:
            counts = [many + more for many, more in zip(counts, [0, *ahead[further]])]
    return counts


def count_with_tellers(band, row, *, seeds, tellers):
    """The number of seed streams with so many seeds and just so many tellers that leave a row."""
    check_length(band, row, seeds)
    if not is_number(tellers, 0, MOST_LENGTH):
        raise BadNumber(tellers)
    # There are at most as many tellers as cells.
    if tellers > band.size:
        return 0
    steps = steps_to(row, band.seeds())
    nothing = [0 for _ in range(tellers)]
    ahead = {one: [1 if one == row else 0, *nothing] for one in steps}
    for _ in range(seeds):
        ahead = {one: counts_by_tellers(steps, one, ahead) for one in steps}
    return ahead[band.blank_row()][tellers]


def number_of(band, stream):
    """The number of a list of seeds, from the oldest on, among those of its length that leave the same row."""
    if len(stream) > MOST_LENGTH:
        raise TooMany(MOST_LENGTH)
    seeds = band.seeds()
    for at, seed in enumerate(stream):
        if seed not in seeds:
            raise BadSeed(at)
    row = band.blank_row()
    goal = laid([row, *stream])
    steps = steps_to(goal, band.seeds())
    ways = ways_left(steps, goal, len(stream))
    number = 0
    for at in range(len(stream) - 1, -1, -1):
        index = seeds.index(stream[at])
        # The streams that have an earlier seed at this place have smaller numbers.
        number = number + sum(ways_ahead(steps[row], ways[at])[:index])
        row = steps[row][index]
    return number


def numbered(band, row, number, *, seeds):
    """The seeds, from the oldest on, of the seed stream with a number among those that leave a row."""
    check_length(band, row, seeds)
    steps = steps_to(row, band.seeds())
    ways = ways_left(steps, row, seeds)
    if not is_number(number, 0, ways[seeds][band.blank_row()] - 1):
        raise BadNumber(number)
    stream = []
    last = band.blank_row()
    for left in range(seeds - 1, -1, -1):
        counts = ways_ahead(steps[last], ways[left])
        index = 0
        while number >= counts[index]:
            number = number - counts[index]
            index = index + 1
        stream.append(band.seeds()[index])
        last = steps[last][index]
    return stream[::-1]


def shortest_ways(band, steps):
    """A dict from the rows that can be read to the shortest lists of seeds for them, from the newest on; the rows
    with shorter lists stand ahead."""
    ways = {band.blank_row(): []}
    fresh = [band.blank_row()]
    while len(fresh) > 0:
        found = []
        for row in fresh:
            for seed, further in zip(band.seeds(), steps[row]):
                if further is not None and further not in ways:
                    ways[further] = [*ways[row], seed]
                    found.append(further)
        fresh = found
    return ways


def fewest_deeds(band, start, goal):
    """A list of as few seeds as possible, from the oldest on, that leads from a start row to a goal row."""
    band.check_row(start)
    band.check_row(goal)
    for name, sign, wanted in zip(band.names(), start, goal):
        if sign != "." and wanted == ".":
            raise Never(name)
    ways = shortest_ways(band, steps_to(goal, band.seeds()))
    enough = [row for row in ways if over(row, start) == goal]
    return ways[enough[0]][::-1]
