"""Bars: the places that they cover, and those within a floor."""

from barfloors.errors import NoBars
from barfloors.kinds import is_whole_within, need_length

FURTHEST = 40
ACROSS = 0
DOWN = 1


def is_bar(thing):
    """Whether the thing, of whatever kind, is a bar."""
    if not isinstance(thing, tuple) or len(thing) != 3:
        return False
    row, column, way = thing
    if not is_whole_within(row, -FURTHEST, FURTHEST) or not is_whole_within(column, -FURTHEST, FURTHEST):
        return False
    return is_whole_within(way, ACROSS, DOWN)


def places_of(bar, length):
    """The rising tuple of the places that a bar covers; both are known to be right."""
    row, column, way = bar
    if way == ACROSS:
        return tuple([(row, column + step) for step in range(length)])
    return tuple([(row + step, column) for step in range(length)])


def cells_of(bar, length):
    """The rising tuple of the places that a bar of the length covers."""
    if not is_bar(bar):
        raise NoBars("a bar is a row, a column and a way")
    need_length(length)
    return places_of(bar, length)


def is_within(floor, bar, length):
    """Whether a bar of the length covers cells of the floor alone."""
    return all([place in floor for place in places_of(bar, length)])


def bars_of(floor, length):
    """The rising list of all bars of the length within the floor."""
    need_length(length)
    # A bar within a floor begins at a cell of it; cells rise, so the bars do too.
    bars = [(row, column, way) for row, column in floor for way in (ACROSS, DOWN)]
    return [bar for bar in bars if is_within(floor, bar, length)]


def covered_by(bars, length):
    """The list of the places that bars cover, each as often as it is covered."""
    return [place for bar in bars for place in places_of(bar, length)]


def steps_among(cells, covers):
    """For each cell, in order, the list of the bars that begin there, each with the lot of cells that it covers.

    The covers are bars, each with the list or tuple of its cells, the first one first. A lot of cells is a whole
    number, with a bit for each cell, in their order.
    """
    bits = {cell: 1 << at for at, cell in enumerate(cells)}
    steps = {cell: [] for cell in cells}
    for bar, covered in covers:
        steps[covered[0]].append((bar, sum([bits[cell] for cell in covered])))
    return [steps[cell] for cell in cells]


def steps_of(floor, length):
    """The steps among the cells of the floor, by the bars of the length within it."""
    return steps_among(floor, [(bar, places_of(bar, length)) for bar in bars_of(floor, length)])


def first_open(lot):
    """The number of the first cell that is not in a lot of cells."""
    return (lot ^ (lot + 1)).bit_length() - 1
