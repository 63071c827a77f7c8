"""A desk that keeps a floor, a length and a packing, and is told rows."""

from barfloors.errors import NoBars, NoRow, NoText
from barfloors.fillings import filling_at, first_filling, many_fillings
from barfloors.floors import box_floor
from barfloors.kinds import LEAST_LENGTH, need_length
from barfloors.most import is_packing, left_over, most_packing
from barfloors.texts import bars_read, bars_text, floor_read, floor_text, is_place_word, place_of, words_text
from barfloors.turns import blocks_of, turned

DIGITS = "0123456789"
MOST_DIGITS = 9
DONE = "ok"


def read_floor(text):
    """The floor behind the row's word."""
    try:
        return floor_read(text)
    except NoText:
        raise NoRow("a floor is wanted")


def read_number(text):
    """The number behind the row's word."""
    if not 1 <= len(text) <= MOST_DIGITS or not all([sign in DIGITS for sign in text]):
        raise NoRow(f"a number of one to {MOST_DIGITS} figures is wanted")
    if text[0] == "0" and text != "0":
        raise NoRow("no nought stands ahead of a number")
    return int(text)


def read_bar(text):
    """The bar behind the row's word."""
    try:
        bars = bars_read(text)
    except NoText:
        raise NoRow("a bar is wanted")
    if len(bars) != 1:
        raise NoRow("one bar is wanted")
    return bars[0]


def read_place(text):
    """The place behind the row's word."""
    if not is_place_word(text):
        raise NoRow("a row's and a column's figure are wanted")
    return place_of(text)


def do_floor(now, floor):
    """The state with this floor, and no bars."""
    return (floor, now[1], ())


def do_length(now, number):
    """The state with this length, and no bars."""
    need_length(number)
    return (now[0], number, ())


def do_put(now, bar):
    """The state with the bar put to the packing."""
    floor, length, packing = now
    larger = tuple(sorted(packing + (bar,)))
    if not is_packing(floor, length, larger):
        raise NoBars("the bar has no room there")
    return (floor, length, larger)


def do_take(now, bar):
    """The state with the bar taken from the packing."""
    floor, length, packing = now
    if bar not in packing:
        raise NoBars("the bar is not there")
    return (floor, length, tuple([other for other in packing if other != bar]))


def do_turn(now, place):
    """The state with the filling turned at the place."""
    floor, length, packing = now
    return (floor, length, turned(floor, length, packing, place))


def do_fill(now, nothing):
    """The state with the first filling."""
    floor, length, packing = now
    filling = first_filling(floor, length)
    if filling is None:
        raise NoBars("no bars fill the floor")
    return (floor, length, filling)


def tell_show(now, nothing):
    """The floor, written."""
    return floor_text(now[0])


def tell_bars(now, nothing):
    """The packing, written."""
    return bars_text(now[2])


def places_text(places):
    """Places, written."""
    return words_text([f"{row}{column}" for row, column in places])


def tell_left(now, nothing):
    """The cells left over, written."""
    floor, length, packing = now
    return places_text(left_over(floor, length, packing))


def tell_blocks(now, nothing):
    """The blocks of the filling, written."""
    floor, length, packing = now
    return places_text(blocks_of(floor, length, packing))


def tell_most(now, nothing):
    """How many bars the most are."""
    return str(len(most_packing(now[0], now[1])))


def tell_many(now, nothing):
    """How many fillings there are."""
    return str(many_fillings(now[0], now[1]))


def tell_at(now, number):
    """The filling of the number, written."""
    return bars_text(filling_at(now[0], now[1], number))


READERS = {
    "floor": read_floor, "length": read_number, "put": read_bar, "take": read_bar, "turn": read_place,
    "at": read_number,
}
ALONE = ("fill", "undo", "show", "bars", "left", "blocks", "most", "many")
DEEDS = {
    "floor": do_floor, "length": do_length, "put": do_put, "take": do_take, "turn": do_turn, "fill": do_fill,
}
ASKS = {
    "show": tell_show, "bars": tell_bars, "left": tell_left, "blocks": tell_blocks, "most": tell_most,
    "many": tell_many, "at": tell_at,
}


def read_row(row):
    """The row's word, and what is read behind it, None where the word stands alone."""
    if not isinstance(row, str):
        raise NoRow("a row is a text")
    word, blank, text = row.partition(" ")
    if blank and word in READERS:
        reader = READERS[word]
        return (word, reader(text))
    if not blank and word in ALONE:
        return (word, None)
    raise NoRow("no such row is known")


class Desk:
    """A desk: what it keeps now, and what it kept ahead of each deed that stands."""

    def __init__(self):
        self.now = (box_floor(1, 1), LEAST_LENGTH, ())
        self.past = []

    def say(self, row):
        """The answer to a row."""
        word, thing = read_row(row)
        if word in ASKS:
            ask = ASKS[word]
            return ask(self.now, thing)
        if word == "undo":
            self.go_back()
        else:
            deed = DEEDS[word]
            self.go_on(deed(self.now, thing))
        return DONE

    def go_on(self, behind):
        """Keep what a deed made."""
        self.past.append(self.now)
        self.now = behind

    def go_back(self):
        """Undo the last deed that stands."""
        if not self.past:
            raise NoRow("no deed is left to undo")
        self.now = self.past.pop()
