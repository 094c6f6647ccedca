"""Fillings of asked cells, told layer by layer, and the histories that leave a wanted one.

Layers are lists of choices, from the oldest layer to the newest one; places are the indexes of the asked cells.
"""

from newesttells.rows import blank, cut, over


def newest_fillings(layers, places):
    """The table of [24]: for each number of newest layers, the ascending fillings that they can leave."""
    fillings = [blank(len(places))]
    table = [fillings]
    for choices in layers[::-1]:
        fillings = sorted({over(newer, cut(choice, places)) for newer in fillings for choice in choices})
        table.append(fillings)
    return table


def oldest_fillings(layers, places):
    """For each number of oldest layers, the ascending fillings that they can leave."""
    fillings = [blank(len(places))]
    table = [fillings]
    for choices in layers:
        fillings = sorted({over(cut(choice, places), older) for older in fillings for choice in choices})
        table.append(fillings)
    return table


def ways_to(layers, places, wanted):
    """For each number of oldest layers, a dict from the fillings that they can leave to the number of ways in which
    the newer layers lead from there to the wanted filling."""
    table = oldest_fillings(layers, places)
    ahead = {filling: 1 if filling == wanted else 0 for filling in table[-1]}
    ways = [ahead]
    for at in range(len(layers) - 1, -1, -1):
        signs = [cut(choice, places) for choice in layers[at]]
        ahead = {older: sum([ahead[over(newer, older)] for newer in signs]) for older in table[at]}
        ways.append(ahead)
    return ways[::-1]


def fitting_choices(layers, places, ways):
    """For each layer, the list of the choices, in order, with which some history leads to the wanted filling."""
    fitting = []
    for at, choices in enumerate(layers):
        ahead = ways[at + 1]
        fitting.append([choice for choice in choices
                        if any([ahead[over(cut(choice, places), older)] > 0 for older in ways[at]])])
    return fitting


def fitting_history(layers, places, ways):
    """The rows of the first history that leads to the wanted filling, None if there is none."""
    filling = blank(len(places))
    if ways[0][filling] == 0:
        return None
    rows = []
    for at, choices in enumerate(layers):
        for choice in choices:
            further = over(cut(choice, places), filling)
            if ways[at + 1][further] > 0:
                break
        rows.append(choice)
        filling = further
    return rows


def fitting_histories(layers, places, ways):
    """The list of all histories that lead to the wanted filling, by the order of the choices of the oldest layer,
    then of the next one, and so on."""
    # Only beginnings that some history goes on with are kept, so that there are never more than histories.
    begun = [([], older) for older in ways[0] if ways[0][older] > 0]
    for at, choices in enumerate(layers):
        longer = []
        for rows, older in begun:
            for choice in choices:
                further = over(cut(choice, places), older)
                if ways[at + 1][further] > 0:
                    longer.append(([*rows, choice], further))
        begun = longer
    return [rows for rows, _ in begun]
