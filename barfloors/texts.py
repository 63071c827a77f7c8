"""Floors and bars, written as texts and read from them."""

from barfloors.errors import NoText
from barfloors.floors import is_floor
from barfloors.kinds import is_rising

CELL = "#"
GAP = "."
NO_CELLS = "-"
NONE = "none"
# The figures of rows and columns, each at its own number, and the signs of ways, likewise.
FIGURES = "01234567"
WAY_SIGNS = "ad"


def row_text(columns):
    """How a row with cells in these columns, in rising order, is written."""
    if not columns:
        return GAP
    return "".join([CELL if column in columns else GAP for column in range(columns[-1] + 1)])


def floor_text(floor):
    """How the floor is written."""
    if not floor:
        return NO_CELLS
    last_row = floor[-1][0]
    return "/".join([row_text([column for row, column in floor if row == line]) for line in range(last_row + 1)])


def floor_read(text):
    """The floor that the text writes."""
    if not isinstance(text, str):
        raise NoText("a text is wanted")
    lines = text.split("/")
    floor = tuple([(row, column) for row, line in enumerate(lines) for column, sign in enumerate(line) if sign == CELL])
    # A floor is written in one way alone, so whatever else is wrong with the text shows when the floor is written.
    if not is_floor(floor) or floor_text(floor) != text:
        raise NoText("the text writes no floor")
    return floor


def words_text(words):
    """The words with one blank between two, or none."""
    return " ".join(words) if words else NONE


def bars_text(bars):
    """How the bars are written."""
    return words_text([f"{row}{column}{WAY_SIGNS[way]}" for row, column, way in bars])


def is_place_word(word):
    """Whether the word is two figures, of a row and a column."""
    return len(word) == 2 and word[0] in FIGURES and word[1] in FIGURES


def is_bar_word(word):
    """Whether the word writes a bar."""
    return len(word) == 3 and is_place_word(word[:2]) and word[2] in WAY_SIGNS


def place_of(word):
    """The place of a row's figure and a column's."""
    return (FIGURES.index(word[0]), FIGURES.index(word[1]))


def bar_of(word):
    """The bar that the word writes."""
    return place_of(word) + (WAY_SIGNS.index(word[2]),)


def bars_read(text):
    """The rising tuple of the bars that the text writes."""
    if not isinstance(text, str):
        raise NoText("a text is wanted")
    if text == NONE:
        return ()
    words = text.split(" ")
    if not all([is_bar_word(word) for word in words]):
        raise NoText("the text writes no bars")
    bars = tuple([bar_of(word) for word in words])
    if not is_rising(bars):
        raise NoText("the bars do not rise")
    return bars
