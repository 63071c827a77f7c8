"""Hues and rests of a floor: how many cells have each, and whether they are sums."""

from barfloors.kinds import need_length


def hues(floor, length):
    """The list of how many cells of the floor each hue has."""
    need_length(length)
    told = [0] * length
    for row, column in floor:
        told[(row + column) % length] += 1
    return told


def rests(floor, length):
    """For each rest of rows the list of how many cells have it, and each rest of columns."""
    need_length(length)
    told = [[0] * length for row_rest in range(length)]
    for row, column in floor:
        told[row % length][column % length] += 1
    return told


def first_apart(floor, length):
    """The first rests of a row and a column at which the rests are no sums, None where they are sums."""
    table = rests(floor, length)
    for row_rest in range(length):
        for column_rest in range(length):
            both_heads = table[row_rest][0] + table[0][column_rest]
            if table[row_rest][column_rest] + table[0][0] != both_heads:
                return (row_rest, column_rest)
    return None


def sums_of(floor, length):
    """The numbers of the rows' rests, and of the columns', of which the rests are sums, None where they are none."""
    if first_apart(floor, length) is not None:
        return None
    table = rests(floor, length)
    # The first column's number is 0, so the first column tells the rows' numbers as they are.
    return ([line[0] for line in table], [many - table[0][0] for many in table[0]])
