"""Strips of one to four rows and any number of columns: how many fillings they have."""

from barfloors.kinds import need_length, need_number

MOST_WIDTH = 4
MOST_COLUMNS = 200


def columns_behind(edge, length):
    """The edges that the ways to cover one column more leave of an edge.

    An edge is a tuple with, for each row, how many cells behind the columns covered so far bars reach.
    """
    told = []
    waiting = [()]
    while waiting:
        begun = waiting.pop()
        row = len(begun)
        if row == len(edge):
            told.append(begun)
        elif edge[row] > 0:
            waiting.append(begun + (edge[row] - 1,))
        else:
            waiting.append(begun + (length - 1,))
            if edge[row:row + length] == (0,) * length:
                waiting.append(begun + (0,) * length)
    return told


def layer_of(layer, length):
    """The edges one column further than those of a layer, each with how many ways lead to it."""
    behind = {}
    for edge, many in layer.items():
        for further in columns_behind(edge, length):
            behind[further] = behind.get(further, 0) + many
    return behind


def strip_counts(width, length, columns):
    """The list of how many fillings the strips of 0 columns, 1 and so on, up to so many, have."""
    need_number(width, 1, MOST_WIDTH)
    need_length(length)
    need_number(columns, 0, MOST_COLUMNS)
    even = (0,) * width
    layer = {even: 1}
    counts = [1]
    for column in range(columns):
        layer = layer_of(layer, length)
        # A strip ends where no bar reaches further.
        counts.append(layer.get(even, 0))
    return counts


def strip_many(width, length, columns):
    """How many fillings the strip of so many columns has."""
    return strip_counts(width, length, columns)[-1]
