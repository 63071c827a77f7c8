import itertools
import re
import unittest

from barfloors.errors import NoText
from barfloors.floors import box_floor, is_floor
from barfloors.texts import bars_read, bars_text, floor_read, floor_text
from tests.things import Asking, drawn, odd_things, some_floors, subsets_of_box

FLOORS = {
    (): "-", ((0, 0),): "#", ((0, 1),): ".#", ((1, 0),): "./#", ((0, 0), (0, 1)): "##", ((0, 0), (1, 0)): "#/#",
    ((0, 0), (1, 1)): "#/.#", ((0, 1), (1, 0)): ".#/#", ((0, 0), (0, 2)): "#.#", ((0, 0), (2, 0)): "#/./#",
    ((0, 3), (2, 1), (2, 2)): "...#/./.##", ((7, 7),): "./././././././.......#", ((0, 7),): ".......#",
    ((7, 0),): "./././././././#", ((0, 7), (7, 0)): ".......#/././././././#",
    box_floor(5, 8): "########/########/########/########/########",
    box_floor(8, 5): "#####/#####/#####/#####/#####/#####/#####/#####",
    drawn("###", "#.#", "###"): "###/#.#/###",
}
BARS = {
    (): "none", ((0, 3, 1),): "03d", ((0, 0, 0),): "00a", ((7, 7, 1),): "77d", ((0, 0, 0), (0, 0, 1)): "00a 00d",
    ((0, 0, 0), (1, 0, 0)): "00a 10a", ((0, 7, 1), (1, 0, 0), (7, 0, 0)): "07d 10a 70a",
}
SIGNS = "#./- a0d\n\tx"
FLOOR_FORM = re.compile(r"-|(?:(?:\.|[.#]*#)/)*[.#]*#", re.ASCII)
BARS_FORM = re.compile(r"none|[0-7][0-7][ad](?: [0-7][0-7][ad])*", re.ASCII)


def written(floor):
    """How a floor is written: drawn in a square of signs, of which what is behind the last cell is left out."""
    lines = ["".join("#" if (row, column) in floor else "." for column in range(8)).rstrip(".") for row in range(8)]
    while lines and not lines[-1]:
        lines.pop()
    return "/".join(line or "." for line in lines) or "-"


def writes_a_floor(text):
    lines = text.split("/")
    return (FLOOR_FORM.fullmatch(text) is not None and len(lines) <= 8 and max(len(line) for line in lines) <= 8
            and text.count("#") <= 40)


def writes_bars(text):
    words = [] if text == "none" else text.split(" ")
    return BARS_FORM.fullmatch(text) is not None and all(one < other for one, other in zip(words, words[1:]))


def changed(text):
    """The text with each sign left out, doubled or exchanged, and one put in at each place."""
    for at in range(len(text) + 1):
        for sign in SIGNS:
            yield text[:at] + sign + text[at:]
            if at < len(text):
                yield text[:at] + sign + text[at + 1:]
        if at < len(text):
            yield text[:at] + text[at + 1:]
            yield text[:at] + text[at:at + 1].upper() + text[at + 1:]


class Reading(Asking):
    def look_at_floor(self, text):
        if writes_a_floor(text):
            floor = floor_read(text)
            self.assertIs(is_floor(floor), True)
            self.assertEqual(written(floor), text)
            self.assertEqual(floor_text(floor), text)
        else:
            self.refuses(NoText, floor_read, text)

    def look_at_bars(self, text):
        if writes_bars(text):
            bars = bars_read(text)
            self.assertIsInstance(bars, tuple)
            self.assertEqual(list(bars), sorted(set(bars)))
            self.assertEqual(bars_text(bars), text)
        else:
            self.refuses(NoText, bars_read, text)


class Floors(Reading):
    def test_written_and_read(self):
        for floor, text in FLOORS.items():
            self.assertEqual(floor_text(floor), text)
            self.assertEqual(floor_read(text), floor)

    def test_all_small_floors(self):
        for floor in itertools.chain(subsets_of_box(3, 3), subsets_of_box(2, 5), subsets_of_box(5, 2), some_floors()):
            self.assertEqual(floor_text(floor), written(floor))
            self.assertEqual(floor_read(written(floor)), floor)

    def test_each_cell_by_itself(self):
        for cell in itertools.product(range(8), repeat=2):
            self.assertEqual(floor_text((cell,)), written((cell,)))
            self.assertEqual(floor_read(written((cell,))), (cell,))

    def test_all_short_texts(self):
        for many in range(7):
            for signs in itertools.product("#./-", repeat=many):
                self.look_at_floor("".join(signs))

    def test_a_sign_left_out_put_in_or_exchanged(self):
        for text in FLOORS.values():
            for other in changed(text):
                self.look_at_floor(other)

    def test_texts_that_write_none(self):
        for text in ("", " ", "--", "-#", "#-", "/", "#/", "/#", "//", "#//#", ".", "./.", "#.", "#/.", "#/#.", "#./#",
                     "../#", ".#./#", "# ", " #", "#\n", "\n#", "#\n#", "# #", "x", "o", "none", "-/", "-/#", "#/-",
                     "#,#", "#\t", "0", "##\\##", "#|#"):
            self.refuses(NoText, floor_read, text)

    def test_too_many_cells_rows_and_columns(self):
        forty = "/".join(["########"] * 5)
        self.assertEqual(len(floor_read(forty)), 40)
        for text in (forty + "/#", forty + "/.......#", "/".join(["#######"] * 6), "/".join(["########"] * 8)):
            self.refuses(NoText, floor_read, text)
        self.assertEqual(len(floor_read("/".join(["#####"] * 8))), 40)
        self.refuses(NoText, floor_read, "#########")
        self.refuses(NoText, floor_read, "........#")
        self.refuses(NoText, floor_read, "#/........#")
        self.refuses(NoText, floor_read, "./././././././././#")
        self.refuses(NoText, floor_read, "./././././././././.")
        self.refuses(NoText, floor_read, "/".join(["#"] * 9))
        self.refuses(NoText, floor_read, "#" * 400)
        self.refuses(NoText, floor_read, "./" * 200)

    def test_things_of_every_other_kind(self):
        for thing in [((0, 0),), (), 0, ["#"], ("#",), {"#": 1}, {}] + odd_things():
            if thing != "-":
                self.refuses(NoText, floor_read, thing)


class Bars(Reading):
    def test_written_and_read(self):
        for bars, text in BARS.items():
            self.assertEqual(bars_text(bars), text)
            self.assertEqual(bars_read(text), bars)

    def test_each_bar_by_itself(self):
        for row, column, way in itertools.product(range(8), range(8), range(2)):
            text = str(row) + str(column) + ("d" if way else "a")
            self.assertEqual(bars_text(((row, column, way),)), text)
            self.assertEqual(bars_read(text), ((row, column, way),))

    def test_many(self):
        bars = tuple(itertools.product(range(8), range(6), range(2)))
        text = " ".join(f"{row}{column}{'ad'[way]}" for row, column, way in bars)
        self.assertLessEqual(len(text), 400)
        self.assertEqual(bars_text(bars), text)
        self.assertEqual(bars_read(text), bars)

    def test_each_two(self):
        words = ["00a", "00d", "01a", "10a", "07d", "77d"]
        for one, other in itertools.product(words, repeat=2):
            self.look_at_bars(one + " " + other)

    def test_a_sign_left_out_put_in_or_exchanged(self):
        for text in BARS.values():
            for other in changed(text):
                self.look_at_bars(other)
            for figure in "0123456789-+":
                self.look_at_bars(figure + text[1:])
                self.look_at_bars(text[:1] + figure + text[2:])

    def test_texts_that_write_none(self):
        for text in ("", " ", "00", "00b", "00A", "0a", "a", "a00", "0a0", "80a", "08a", "99d", "-10a", "000a", "00aa",
                     "00a ", " 00a", "00a  10a", "00a,10a", "00a10a", "10a 00a", "00d 00a", "00a 00a", "none none",
                     "none 00a", "00a none", "None", "NONE", "none ", " none", "00a\n", "00a\t10a", "00a\n10a", "()",
                     "-", "#", "00a/10a"):
            self.refuses(NoText, bars_read, text)

    def test_things_of_every_other_kind(self):
        for thing in [((0, 0, 0),), (), 0, ["00a"], ("00a",), {"00a": 1}] + odd_things():
            self.refuses(NoText, bars_read, thing)


if __name__ == "__main__":
    unittest.main()
