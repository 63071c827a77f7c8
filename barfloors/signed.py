"""Signed fillings: bars put on and taken off that come to a floor together."""

from barfloors.bars import ACROSS, DOWN, is_bar, places_of
from barfloors.kinds import is_rising, is_whole, need_length
from barfloors.rests import sums_of


def is_signed_bar(thing):
    """Whether the thing is a tuple of a bar and how often it is put on, or, below 0, taken off."""
    if not isinstance(thing, tuple) or len(thing) != 2:
        return False
    bar, times = thing
    return is_bar(bar) and is_whole(times) and times != 0


def covers_of(signed, length):
    """A dict with, for each place that signed bars touch, how often they cover it together."""
    covers = {}
    for bar, times in signed:
        for place in places_of(bar, length):
            covers[place] = covers.get(place, 0) + times
    return covers


def is_signed(floor, length, thing):
    """Whether the thing, of whatever kind, is a signed filling of the floor by bars of the length."""
    need_length(length)
    if not isinstance(thing, tuple) or not all([is_signed_bar(part) for part in thing]):
        return False
    # If the bars by themselves rise, the parts do too, and no two bars are alike.
    if not is_rising([bar for bar, times in thing]):
        return False
    covers = covers_of(thing, length)
    covered = [place for place, many in covers.items() if many != 0]
    return tuple(sorted(covered)) == floor and all([covers[place] == 1 for place in covered])


def add_bar(signed, bar, times):
    """Put a bar on so often more, below 0 off, in a dict of how often each is."""
    signed[bar] = signed.get(bar, 0) + times


def lead_home(signed, cell, length):
    """Put on and take off bars that come to the cell, less the place whose row and column are its rests."""
    row, column = cell
    # A bar one place further, less the bar itself, is the place behind the bar less its first one.
    for first in range(row % length, row, length):
        add_bar(signed, (first + 1, column, DOWN), 1)
        add_bar(signed, (first, column, DOWN), -1)
    for first in range(column % length, column, length):
        add_bar(signed, (row % length, first + 1, ACROSS), 1)
        add_bar(signed, (row % length, first, ACROSS), -1)


def signed_for(floor, length):
    """Some signed filling of the floor by bars of the length, None where there is none."""
    sums = sums_of(floor, length)
    if sums is None:
        return None
    signed = {}
    for cell in floor:
        lead_home(signed, cell, length)
    # What is home now is sums of numbers of rows and columns: so many bars along each of them are it.
    for rest in range(length):
        add_bar(signed, (rest, 0, ACROSS), sums[0][rest])
        add_bar(signed, (0, rest, DOWN), sums[1][rest])
    return tuple(sorted([(bar, times) for bar, times in signed.items() if times != 0]))
