"""Boxes of one to three sides: whether bars fill them, and papers that show it."""

from barfloors.bars import ACROSS, DOWN
from barfloors.errors import NoBox
from barfloors.floors import LAST_LINE, box_floor
from barfloors.kinds import MOST_SIDE, is_side, is_whole_within, need_length, need_number

MOST_SIDES = 3
SIDES = "sides"
HUES = "hues"


def is_box(thing):
    """Whether the thing is a box."""
    if not isinstance(thing, tuple) or not 1 <= len(thing) <= MOST_SIDES:
        return False
    return all([is_side(side) for side in thing])


def need_box(thing):
    """Refuse what is no box."""
    if not is_box(thing):
        raise NoBox(f"a box is a tuple of one to {MOST_SIDES} whole numbers from 1 to {MOST_SIDE}")


def can_fill(box, length):
    """Whether the box can be filled by bars of the length."""
    need_box(box)
    need_length(length)
    return any([side % length == 0 for side in box])


def counts_of_rests(side, length):
    """The list of how many numbers from 0 on, below the side, have each rest."""
    return [side // length + (1 if rest < side % length else 0) for rest in range(length)]


def box_hues(box, length):
    """The list of how many places of the box each hue has."""
    need_box(box)
    need_length(length)
    told = [1] + [0] * (length - 1)
    for side in box:
        counts = counts_of_rests(side, length)
        told = [sum([told[(hue - rest) % length] * counts[rest] for rest in range(length)]) for hue in range(length)]
    return told


def is_sides_paper(box, length, thing):
    """Whether a tuple is a paper of a side that the length divides."""
    if len(thing) != 2 or thing[0] != SIDES or not is_whole_within(thing[1], 0, len(box) - 1):
        return False
    return box[thing[1]] % length == 0


def is_hues_paper(box, length, thing):
    """Whether a tuple is a paper of two hues of which one has more places."""
    if len(thing) != 3 or thing[0] != HUES or not all([is_whole_within(hue, 0, length - 1) for hue in thing[1:]]):
        return False
    counts = box_hues(box, length)
    return thing[1] < thing[2] and counts[thing[1]] != counts[thing[2]]


def is_box_paper(box, length, thing):
    """Whether the thing, of whatever kind, is a box paper of the box and the length."""
    need_box(box)
    need_length(length)
    if not isinstance(thing, tuple):
        return False
    return is_sides_paper(box, length, thing) or is_hues_paper(box, length, thing)


def box_paper(box, length):
    """The box paper of the first side that the length divides, else of the first two hues that differ."""
    if can_fill(box, length):
        return (SIDES, [side % length for side in box].index(0))
    counts = box_hues(box, length)
    # If some hue differs from another, one does from hue 0, and hue 0 goes ahead of all.
    return (HUES, 0, [count == counts[0] for count in counts].index(False))


def need_two(high, wide, across, down):
    """Refuse numbers of rows and columns that no floor of a box has, then what is no length."""
    need_number(high, 1, LAST_LINE + 1)
    need_number(wide, 1, LAST_LINE + 1)
    need_length(across)
    need_length(down)
    # Too many cells are refused behind all else.
    box_floor(high, wide)


def can_fill_two(high, wide, across, down):
    """Whether the floor of the box can be filled by bars of one length across, and of another one down."""
    need_two(high, wide, across, down)
    return wide % across == 0 or high % down == 0


def filling_of_two(high, wide, across, down):
    """Such a filling, all across or else all down, None where there is none."""
    need_two(high, wide, across, down)
    if wide % across == 0:
        return tuple([(row, column, ACROSS) for row in range(high) for column in range(0, wide, across)])
    if high % down == 0:
        return tuple([(row, column, DOWN) for row in range(0, high, down) for column in range(wide)])
    return None
