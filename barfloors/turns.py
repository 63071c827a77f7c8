"""Blocks of a filling: squares that as many bars fill, all across or all down, and can be turned."""

from barfloors.bars import ACROSS, DOWN
from barfloors.errors import NoTurn
from barfloors.fillings import need_filling
from barfloors.kinds import are_wholes


def block_bars(place, length, way):
    """The list of the bars, all the one way, that fill the square from the place on."""
    row, column = place
    if way == ACROSS:
        return [(row + step, column, ACROSS) for step in range(length)]
    return [(row, column + step, DOWN) for step in range(length)]


def blocks_in(filling, length):
    """The rising list of the blocks of what is known to be a filling."""
    # The first bar of a block begins at its place, and no two bars begin at one: so the bars' order is the blocks' too.
    return [(row, column) for row, column, way in filling
            if all([bar in filling for bar in block_bars((row, column), length, way)])]


def lies_across(filling, place):
    """Whether the bar that begins at the place lies across."""
    row, column = place
    return (row, column, ACROSS) in filling


def turn_at(filling, length, place):
    """The filling turned at what is known to be a block of it."""
    across = block_bars(place, length, ACROSS)
    down = block_bars(place, length, DOWN)
    old, new = (across, down) if lies_across(filling, place) else (down, across)
    return tuple(sorted([bar for bar in filling if bar not in old] + new))


def need_block(floor, length, filling, place):
    """Refuse what is no filling of the floor, then what is no block of it."""
    need_filling(floor, length, filling)
    # True and False stand for 1 and 0 where tuples are compared, so the kind is looked at by itself.
    if not are_wholes(place, 2, 2) or place not in blocks_in(filling, length):
        raise NoTurn("a block of the filling is wanted")


def blocks_of(floor, length, filling):
    """The rising list of all blocks of the filling."""
    need_filling(floor, length, filling)
    return blocks_in(filling, length)


def turned(floor, length, filling, place):
    """The filling turned at the block."""
    need_block(floor, length, filling, place)
    return turn_at(filling, length, place)


def rises(floor, length, filling, place):
    """Whether the bars of the block come to lie down by its turn."""
    need_block(floor, length, filling, place)
    return lies_across(filling, place)
