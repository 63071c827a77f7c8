"""Nets: cells of a floor of which each bar within it has one at least."""

from barfloors.bars import bars_of, places_of
from barfloors.floors import is_floor
from barfloors.rests import hues


def is_net(floor, length, thing):
    """Whether the thing, of whatever kind, is a net of the floor for bars of the length."""
    bars = bars_of(floor, length)
    # A rising tuple of cells is a floor itself, and has no more cells than the floor that they are of.
    if not is_floor(thing) or not all([cell in floor for cell in thing]):
        return False
    return all([any([place in thing for place in places_of(bar, length)]) for bar in bars])


def least_hue(floor, length):
    """The hue of the fewest cells, of several the least one, and the rising tuple of its cells."""
    counts = hues(floor, length)
    hue = counts.index(min(counts))
    return (hue, tuple([(row, column) for row, column in floor if (row + column) % length == hue]))
