"""Floors: rising tuples of cells, their pieces and their holes."""

from barfloors.errors import TooMany
from barfloors.kinds import is_rising, is_whole_within, need_number

MOST_CELLS = 40
LAST_LINE = 7


def is_cell(thing):
    """Whether the thing is a cell."""
    if not isinstance(thing, tuple) or len(thing) != 2:
        return False
    return all([is_whole_within(number, 0, LAST_LINE) for number in thing])


def is_floor(thing):
    """Whether the thing, of whatever kind, is a floor."""
    if not isinstance(thing, tuple) or len(thing) > MOST_CELLS:
        return False
    # Only cells are sure to compare, so they are looked at ahead of their order.
    return all([is_cell(cell) for cell in thing]) and is_rising(thing)


def box_floor(high, wide):
    """The floor of the box of so many rows and columns."""
    need_number(high, 1, LAST_LINE + 1)
    need_number(wide, 1, LAST_LINE + 1)
    if high * wide > MOST_CELLS:
        raise TooMany(high * wide, MOST_CELLS)
    return tuple([(row, column) for row in range(high) for column in range(wide)])


def mirrored(floor):
    """The floor with rows and columns exchanged."""
    return tuple(sorted([(column, row) for row, column in floor]))


def moved(floor):
    """The floor moved so that its least row and its least column are 0."""
    if not floor:
        return ()
    upper = min([row for row, column in floor])
    left = min([column for row, column in floor])
    return tuple([(row - upper, column - left) for row, column in floor])


def beside(place):
    """The four places beside a place."""
    row, column = place
    return [(row - 1, column), (row, column - 1), (row, column + 1), (row + 1, column)]


def reached_from(start, places):
    """The rising tuple of those of the places to which one comes from start, one beside the other."""
    open_places = set(places)
    found = {start}
    waiting = [start]
    while waiting:
        here = waiting.pop()
        for place in beside(here):
            if place in open_places and place not in found:
                found.add(place)
                waiting.append(place)
    return tuple(sorted(found))


def pieces(floor):
    """The rising list of the floor's pieces, each a rising tuple of cells."""
    told = []
    seen = set()
    # Cells rise, so each piece is met first at its least cell, and the list rises too.
    for cell in floor:
        if cell not in seen:
            piece = reached_from(cell, floor)
            told.append(piece)
            for member in piece:
                seen.add(member)
    return told


def has_hole(floor):
    """Whether some place that is no cell is shut off from the outside by the floor."""
    # One line of places round all that may be cells joins the whole outside.
    lines = list(range(-1, LAST_LINE + 2))
    places = [(row, column) for row in lines for column in lines if (row, column) not in floor]
    return len(reached_from((-1, -1), places)) < len(places)
