"""Packings: bars of which no two share a cell, and the most of them."""

from barfloors.bars import covered_by, is_bar, is_within, steps_of
from barfloors.errors import NoBars, NoBox
from barfloors.kinds import MOST_SIDE, is_rising, is_side, need_length


def is_packing(floor, length, thing):
    """Whether the thing, of whatever kind, is a packing of the floor by bars of the length."""
    need_length(length)
    # Only bars are sure to compare, so they are looked at ahead of their order.
    if not isinstance(thing, tuple) or not all([is_bar(bar) for bar in thing]) or not is_rising(thing):
        return False
    if not all([is_within(floor, bar, length) for bar in thing]):
        return False
    places = covered_by(thing, length)
    return len(set(places)) == len(places)


def left_over(floor, length, packing):
    """The rising tuple of the cells that are in no bar of the packing."""
    if not is_packing(floor, length, packing):
        raise NoBars("a packing of the floor is wanted")
    covered = covered_by(packing, length)
    return tuple([cell for cell in floor if cell not in covered])


def keep_longer(packings, lot, packing):
    """Keep the packing for the lot of cells, unless one with as many bars is kept for it."""
    if lot not in packings or len(packings[lot]) < len(packing):
        packings[lot] = packing


def packings_behind(packings, at, steps):
    """The longest packings by lots of cells, once the cell of the number is in the lot: left over or covered."""
    bit = 1 << at
    behind = {}
    for lot, packing in packings.items():
        # The cell left over is taken into the lot too, so that lots alike go on alike.
        keep_longer(behind, lot | bit, packing)
        if not lot & bit:
            for bar, cells in steps:
                if not lot & cells:
                    keep_longer(behind, lot | cells, packing + (bar,))
    return behind


def most_packing(floor, length):
    """Some packing of the floor with the most bars of the length."""
    packings = {0: ()}
    for at, steps in enumerate(steps_of(floor, length)):
        packings = packings_behind(packings, at, steps)
    # Behind the last cell all lots are the whole floor.
    return packings[(1 << len(floor)) - 1]


def box_left(rows, columns, length):
    """How many cells of the box of so many rows and columns are left over at least."""
    if not is_side(rows) or not is_side(columns):
        raise NoBox(f"sides are whole numbers from 1 to {MOST_SIDE}")
    need_length(length)
    row_rest = rows % length
    column_rest = columns % length
    if rows >= length and columns >= length:
        return min(row_rest * column_rest, (length - row_rest) * (length - column_rest))
    if rows >= length:
        return columns * row_rest
    if columns >= length:
        return rows * column_rest
    return rows * columns
