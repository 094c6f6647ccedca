"""Ways to lay things into piles or into an order, and the rows that their heights give."""


def are_letters(value, least, most):
    """Whether any value is a string of so many different lowercase letters."""
    if not isinstance(value, str) or not least <= len(value) <= most:
        return False
    return all(["a" <= letter <= "z" and letter not in value[:at] for at, letter in enumerate(value)])


def are_some_of(things, value):
    """Whether any value is a string of different things, which may be empty."""
    if not isinstance(value, str):
        return False
    return all([letter in things and letter not in value[:at] for at, letter in enumerate(value)])


def all_piles(things):
    """All lists of piles into which the things can be laid, each pile with its things in their order."""
    found = [[]]
    for thing in things:
        longer = []
        for piles in found:
            for at, pile in enumerate(piles):
                longer.append([*piles[:at], pile + thing, *piles[at + 1:]])
            for at in range(len(piles) + 1):
                longer.append([*piles[:at], thing, *piles[at:]])
        found = longer
    return found


def all_orders(things):
    """All strings of different things, the empty one among them."""
    found = [""]
    last = [""]
    for _ in things:
        last = [order + thing for order in last for thing in things if thing not in order]
        found.extend(last)
    return found


def pile_heights(piles):
    """A dict from the things of a list of piles to the index of their pile."""
    return {thing: at for at, pile in enumerate(piles) for thing in pile}


def sign_between(one, other):
    """The sign of a cell for two heights: 0 if the first one is less, 1 if it is greater, a dot if they are equal."""
    if one == other:
        return "."
    return "0" if one < other else "1"


def row_of_heights(names, heights):
    """The row for cells named by two letters, from a dict with the heights of the letters."""
    return "".join([sign_between(heights[name[0]], heights[name[1]]) for name in names])
