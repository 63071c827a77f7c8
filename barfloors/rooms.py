"""Rooms of three sides: fillings of them, looked at, told and counted, and their hues."""

from barfloors.bars import steps_among
from barfloors.boxes import box_hues, is_box
from barfloors.errors import NoBox, TooMany
from barfloors.fillings import Ways
from barfloors.kinds import MOST_SIDE, are_wholes, is_rising, need_length

ROOM_WAYS = (0, 1, 2)
MOST_LOOKED_AT = 1000
MOST_COUNTED = 24


def need_room(thing):
    """Refuse what is no room."""
    if not is_box(thing) or len(thing) != len(ROOM_WAYS):
        raise NoBox(f"a room is a tuple of three whole numbers from 1 to {MOST_SIDE}")


def many_cells(room):
    """How many cells the room has."""
    return room[0] * room[1] * room[2]


def need_small(room, length, most):
    """Refuse what is no room, what is no length, and a room of more cells than so many."""
    need_room(room)
    need_length(length)
    if many_cells(room) > most:
        raise TooMany(many_cells(room), most)


def cells_of_room(room):
    """The rising list of the cells of the room."""
    return [(x, y, z) for x in range(room[0]) for y in range(room[1]) for z in range(room[2])]


def cells_along(bar, length):
    """The list of the cells that a room's bar covers."""
    x, y, z, way = bar
    if way == 0:
        return [(x + step, y, z) for step in range(length)]
    if way == 1:
        return [(x, y + step, z) for step in range(length)]
    return [(x, y, z + step) for step in range(length)]


def is_in_room(room, bar, length):
    """Whether all cells that a room's bar covers are cells of the room."""
    cells = cells_along(bar, length)
    return all([all([0 <= cell[way] < room[way] for way in ROOM_WAYS]) for cell in cells])


def is_room_bar(thing):
    """Whether the thing is a room's bar."""
    return are_wholes(thing, 4, 4) and thing[3] in ROOM_WAYS


def is_room_filling(room, length, thing):
    """Whether the thing, of whatever kind, is a filling of the room by bars of the length."""
    need_small(room, length, MOST_LOOKED_AT)
    # Only bars are sure to compare, so they are looked at ahead of their order.
    if not isinstance(thing, tuple) or not all([is_room_bar(bar) for bar in thing]) or not is_rising(thing):
        return False
    if not all([is_in_room(room, bar, length) for bar in thing]):
        return False
    covered = [cell for bar in thing for cell in cells_along(bar, length)]
    return len(covered) == many_cells(room) == len(set(covered))


def room_filling(room, length):
    """Some filling of the room by bars of the length, None where there is none."""
    need_small(room, length, MOST_LOOKED_AT)
    for way in ROOM_WAYS:
        if room[way] % length == 0:
            return tuple([cell + (way,) for cell in cells_of_room(room) if cell[way] % length == 0])
    return None


def bars_in_room(room, length):
    """The rising list of all bars of the length within the room."""
    bars = [cell + (way,) for cell in cells_of_room(room) for way in ROOM_WAYS]
    return [bar for bar in bars if is_in_room(room, bar, length)]


def many_room_fillings(room, length):
    """How many fillings of the room by bars of the length there are."""
    need_small(room, length, MOST_COUNTED)
    covers = [(bar, cells_along(bar, length)) for bar in bars_in_room(room, length)]
    return Ways(steps_among(cells_of_room(room), covers)).how_many()


def room_hues(room, length):
    """The list of how many cells of the room have each rest of their three numbers together."""
    need_room(room)
    return box_hues(room, length)
