import random
import unittest

from barfloors.desk import Desk
from barfloors.errors import BarError, NoBars, NoLength, NoNumber, NoRow, NoTurn
from barfloors.fillings import all_fillings, filling_at, first_filling, many_fillings
from barfloors.floors import box_floor
from barfloors.texts import bars_text, floor_text
from tests.things import Asking, bars_by_trying, cells_by_hand, drawn, odd_things, packings_by_trying, some_floors

ASKS = ("show", "bars", "left", "blocks", "most", "many", "at 0", "at 1")
ALONE = ("fill", "undo", "show", "bars", "left", "blocks", "most", "many")
RING = "###/#.#/###"


class Telling(Asking):
    def setUp(self):
        self.desk = Desk()

    def answers(self, **rows):
        """What the desk answers to rows, their names the words."""
        for word, answer in rows.items():
            self.assertEqual(self.desk.say(word), answer)

    def do(self, *rows):
        for row in rows:
            self.assertEqual(self.desk.say(row), "ok", row)

    def looks(self, desk=None):
        """All that the desk answers to asks, by the answer or the class of the refusal."""
        told = []
        for row in ASKS:
            try:
                told.append((desk or self.desk).say(row))
            except BarError as error:
                told.append(error.__class__)
        return told

    def denies(self, error, row):
        """The desk refuses the row by this very class, and stays as it was."""
        before = self.looks()
        self.refuses(error, self.desk.say, row)
        self.assertEqual(self.looks(), before)


class AtFirst(Telling):
    def test_one_cell_no_bars(self):
        self.answers(show="#", bars="none", left="00", most="0", many="0")
        self.denies(NoBars, "blocks")
        self.denies(NoNumber, "at 0")
        self.denies(NoBars, "fill")
        self.denies(NoBars, "put 00a")
        self.denies(NoBars, "take 00a")
        self.denies(NoBars, "turn 00")
        self.denies(NoRow, "undo")

    def test_the_length_is_two(self):
        self.do("floor ##", "put 00a")
        self.answers(left="none")

    def test_answers_are_texts(self):
        self.do("floor ##/##")
        for row in ("show", "bars", "left", "most", "many", "at 0", "fill", "blocks", "undo"):
            self.assertIsInstance(self.desk.say(row), str)

    def test_nothing_is_handed_in_to_make_one(self):
        with self.assertRaises(TypeError):
            Desk(2)


class Deeds(Telling):
    def test_floor(self):
        for floor in [(), ((7, 7),), box_floor(5, 8), drawn("###", "#.#", "###")] + some_floors():
            self.do("floor " + floor_text(floor))
            self.answers(show=floor_text(floor), bars="none")

    def test_floor_takes_all_bars_away(self):
        self.do("floor ##/##", "fill", "floor ##/##")
        self.answers(bars="none", left="00 01 10 11")
        self.do("put 00a", "floor ##")
        self.answers(bars="none", left="00 01")

    def test_floor_keeps_the_length(self):
        self.do("length 3", "floor ###")
        self.answers(most="1", many="1")
        self.do("floor ##")
        self.answers(most="0", many="0")

    def test_length(self):
        self.do("floor #####/#####/#####/#####")
        for length, most in ((2, 10), (3, 6), (4, 5), (5, 4)):
            self.do(f"length {length}")
            self.answers(most=str(most))

    def test_length_takes_all_bars_away_and_keeps_the_floor(self):
        self.do("floor ####", "fill", "length 4")
        self.answers(bars="none", show="####", left="00 01 02 03")
        self.do("fill", "length 4")
        self.answers(bars="none", show="####")

    def test_what_is_no_length(self):
        self.do("floor ##/##", "put 00a")
        for number in (0, 1, 6, 7, 10, 22, 999999999):
            self.denies(NoLength, f"length {number}")
        self.answers(bars="00a")

    def test_put_and_take(self):
        self.do("floor ##/##", "put 10a")
        self.answers(bars="10a", left="00 01")
        self.do("put 00a")
        self.answers(bars="00a 10a", left="none")
        self.do("take 10a")
        self.answers(bars="00a", left="10 11")
        self.do("take 00a", "put 01d")
        self.answers(bars="01d", left="00 10")

    def test_bars_that_cannot_be_put(self):
        self.do("floor ###/##", "put 00a")
        for bar in ("00a", "00d", "01a", "01d", "02a", "02d", "11a", "10d", "77a", "77d", "20a"):
            self.denies(NoBars, "put " + bar)
        self.do("put 10a")
        for bar in ("10a", "00a", "01d"):
            self.denies(NoBars, "put " + bar)

    def test_bars_that_cannot_be_taken(self):
        self.do("floor ###/##", "put 00a")
        for bar in ("00d", "01a", "10a", "02d", "77a"):
            self.denies(NoBars, "take " + bar)
        self.do("take 00a")
        self.denies(NoBars, "take 00a")

    def test_each_bar_of_a_floor(self):
        self.do("floor ##.#/####/.##", "length 3")
        floor = drawn("##.#", "####", ".##")
        for length in (2, 3):
            self.do(f"length {length}")
            within = [bars_text((bar,)) for bar in bars_by_trying(floor, length)]
            for word in [f"{row}{column}{way}" for row in range(8) for column in range(8) for way in "ad"]:
                if word in within:
                    self.do("put " + word)
                    self.answers(bars=word)
                    self.do("take " + word)
                else:
                    self.denies(NoBars, "put " + word)

    def test_turn(self):
        self.do("floor ##/##", "fill")
        self.answers(bars="00a 10a", blocks="00")
        self.do("turn 00")
        self.answers(bars="00d 01d", blocks="00")
        self.do("turn 00")
        self.answers(bars="00a 10a")
        for place in ("01", "10", "11", "77"):
            self.denies(NoTurn, "turn " + place)

    def test_turn_of_what_is_no_filling(self):
        self.do("floor ##/##", "put 00a")
        self.denies(NoBars, "turn 00")
        self.denies(NoBars, "turn 77")
        self.do("put 10a", "turn 00", "take 01d")
        self.denies(NoBars, "turn 00")

    def test_turn_of_longer_bars(self):
        self.do("floor #####/#####/#####/#####/#####", "length 5", "fill", "turn 00")
        self.answers(bars="00d 01d 02d 03d 04d", blocks="00")

    def test_fill(self):
        self.do("floor ##/##", "put 01d", "fill")
        self.answers(bars="00a 10a", left="none")
        self.do("floor -", "fill")
        self.answers(bars="none", left="none", blocks="none", many="1", most="0", show="-")
        for text in ("###", "#..#", "###/###/###"):
            self.do("floor " + text)
            self.denies(NoBars, "fill")
        self.do("floor ####/####/####/####", "length 3", "put 00a")
        self.denies(NoBars, "fill")
        self.answers(bars="00a")


class Asks(Telling):
    def test_left(self):
        self.do("floor ###/.##/######.#")
        self.answers(left="00 01 02 11 12 20 21 22 23 24 25 27")
        self.do("put 24a", "put 02d")
        self.answers(left="00 01 11 20 21 22 23 27")

    def test_blocks(self):
        self.do("floor ####/####", "fill")
        self.answers(blocks="00 02")
        self.do("turn 00")
        self.answers(blocks="00 02")
        self.do("turn 02")
        self.answers(blocks="00 01 02")
        self.do("floor " + RING, "fill")
        self.answers(blocks="none")
        self.do("take 00a")
        self.denies(NoBars, "blocks")

    def test_most_and_many(self):
        self.do("floor ###/###/###")
        self.answers(most="4", many="0")
        self.do("length 3")
        self.answers(most="3", many="2")
        self.do("length 5")
        self.answers(most="0", many="0")
        self.do("floor ########/########/########/########/########", "length 2")
        self.answers(most="20", many="14824")

    def test_most_and_many_do_not_hang_on_the_packing(self):
        self.do("floor ##/##", "put 00a")
        self.answers(most="2", many="2")
        self.assertEqual(self.desk.say("at 1"), "00d 01d")

    def test_at(self):
        self.do("floor ###/###")
        self.assertEqual([self.desk.say(f"at {number}") for number in range(3)],
                         ["00a 02d 10a", "00d 01a 11a", "00d 01d 02d"])
        for number in (3, 4, 10, 999999999):
            self.denies(NoNumber, f"at {number}")
        self.do("floor -")
        self.assertEqual(self.desk.say("at 0"), "none")
        self.denies(NoNumber, "at 1")
        self.do("floor #")
        self.denies(NoNumber, "at 0")
        self.do("floor ########/########/########/########/########")
        self.assertEqual(self.desk.say("at 14823"), bars_text(filling_at(box_floor(5, 8), 2, 14823)))
        self.denies(NoNumber, "at 14824")

    def test_asks_change_nothing(self):
        self.do("floor ##/##", "put 00a")
        before = self.looks()
        self.assertEqual(self.looks(), before)
        self.do("undo", "undo")
        self.answers(show="#")


class Undo(Telling):
    def test_each_deed(self):
        self.do("floor ####/####", "put 00a", "put 10a", "put 02a", "put 12a")
        for deed in ("floor ##/##", "floor -", "floor ####/####", "length 3", "length 2", "take 00a", "turn 00",
                     "turn 02", "fill"):
            before = self.looks()
            self.do(deed, "undo")
            self.assertEqual(self.looks(), before)
        self.do("take 12a")
        for deed in ("put 12a", "fill", "take 10a"):
            before = self.looks()
            self.do(deed, "undo")
            self.assertEqual(self.looks(), before)

    def test_many_one_behind_the_other(self):
        deeds = ["floor ####/####", "length 4", "fill", "take 00a", "length 2", "put 01d", "put 02d", "fill", "turn 02",
                 "take 00a", "floor " + RING, "fill", "length 2", "floor -", "fill"]
        kept = []
        for deed in deeds:
            kept.append(self.looks())
            self.do(deed)
        while kept:
            self.do("undo")
            self.assertEqual(self.looks(), kept.pop())
        self.denies(NoRow, "undo")
        self.denies(NoRow, "undo")

    def test_a_deed_that_changes_nothing_is_one_too(self):
        self.do("floor ##", "fill", "fill", "undo")
        self.answers(bars="00a")
        self.do("undo")
        self.answers(bars="none")
        self.do("length 2", "floor ##", "undo", "undo")
        self.answers(show="##")
        self.do("undo")
        self.answers(show="#")
        self.denies(NoRow, "undo")

    def test_undo_itself_is_not_undone(self):
        self.do("floor ##", "floor ###", "undo")
        self.answers(show="##")
        self.do("undo")
        self.answers(show="#")

    def test_new_deeds_behind_an_undone_one(self):
        self.do("floor ##/##", "put 00a", "undo", "put 00d")
        self.answers(bars="00d")
        self.do("undo")
        self.answers(bars="none")
        self.do("undo")
        self.answers(show="#")
        self.denies(NoRow, "undo")

    def test_what_was_refused_is_no_deed(self):
        self.do("floor ##/##", "put 00a")
        for error, row in ((NoBars, "put 00d"), (NoBars, "take 10a"), (NoBars, "turn 00"), (NoLength, "length 6"),
                           (NoRow, "floor #."), (NoRow, "nothing"), (NoNumber, "at 2"), (NoBars, "blocks")):
            self.denies(error, row)
        self.do("undo")
        self.answers(bars="none")
        self.do("undo")
        self.answers(show="#")
        self.denies(NoRow, "undo")


class Rows(Telling):
    def setUp(self):
        super().setUp()
        self.do("floor ##/##", "put 00a")

    def test_texts_that_are_no_row(self):
        for row in ("", " ", "  ", "x", "ok", "none", "help", "Show", "SHOW", "shows", "sho", "floor", "length", "put",
                    "take", "turn", "at", "floor ", "length ", "put ", "take ", "turn ", "at ", "undo undo", "fill 00a",
                    "show #", "bars none", "left 00", "blocks 00", "most 1", "many 1", "undo 1", "show\n", "show\t",
                    "\nshow", "show show", "at\t1", "put\t10a", "floor\t##", "at0", "put10a", "floor##", "atx 1"):
            self.denies(NoRow, row)

    def test_blanks_ahead_behind_and_twice(self):
        for row in ALONE + ("floor ##", "length 2", "put 10a", "take 00a", "turn 00", "at 0"):
            for wrong in (" " + row, row + " ", "  " + row, row + "  ", row + "\n", row + "\t",
                          row.replace(" ", "  ") + " ", row.upper(), row[1:], row[:1] + row):
                self.denies(NoRow, wrong)
            if " " in row:
                for wrong in (row.replace(" ", "  "), row.replace(" ", ""), row.replace(" ", "\t"),
                              row.replace(" ", "_")):
                    self.denies(NoRow, wrong)

    def test_floors_badly_written(self):
        for text in ("", ".", "#.", "#/", "/#", "#/.", "##/##.", "# #", "x", "#########", "/".join(["#"] * 9),
                     "/".join(["########"] * 5) + "/#", "--", "- ", "none", "#,#", "../#"):
            self.denies(NoRow, "floor " + text)

    def test_numbers_badly_written(self):
        for word in ("00", "01", "02", "007", "1234567890", "0000000000", "1000000000", "-1", "+1", "1.", "1.0", "1e1",
                     "x", "1x", "x1", "2 2", "", " 2", "2 ", "2a", "one", "1_0", "0x1", "1,0", "--1", "2\n"):
            self.denies(NoRow, "at " + word)
            self.denies(NoRow, "length " + word)

    def test_numbers_of_nine_figures_and_nought(self):
        for word in ("123456789", "999999999", "100000000", "10", "2"):
            self.denies(NoNumber, "at " + word)
        for word in ("123456789", "999999999", "100000000", "10", "0", "1", "6"):
            self.denies(NoLength, "length " + word)
        self.assertEqual(self.desk.say("at 0"), "00a 10a")

    def test_bars_badly_written(self):
        for word in ("", "0", "00", "00b", "00A", "a00", "0a0", "80a", "08a", "88d", "90a", "-10a", "000a", "00aa",
                     "00a 10a", "none", "00 a", "(0, 0, 0)", "0,0,a", "00a,", "10", "#", "00a\n"):
            self.denies(NoRow, "put " + word)
            self.denies(NoRow, "take " + word)

    def test_places_badly_written(self):
        for word in ("", "0", "000", "08", "80", "88", "99", "0a", "a0", "00a", "0 0", "0,0", "-1", "(0, 0)", "00 ",
                     "00 00", "none"):
            self.denies(NoRow, "turn " + word)

    def test_things_of_every_other_kind(self):
        for thing in [0, 1, (), ("show",), ["show"], {"show": 1}, ("at", 0), ["put", "10a"], ((0, 0),),
                      {}] + odd_things():
            self.denies(NoRow, thing)

    def test_it_goes_ahead_of_all_else(self):
        # The packing is no filling here, and the bar lies there already: the word is looked at first.
        for row in ("turn 88", "turn 0", "put 00x", "put 00a ", "length 06", "at 02", "blocks ", "fill 1",
                    "floor #./##"):
            self.denies(NoRow, row)


class TwoDesks(Telling):
    def test_nothing_in_common(self):
        other = Desk()
        self.do("floor ##/##", "length 2", "fill")
        self.assertEqual(other.say("show"), "#")
        self.refuses(NoRow, other.say, "undo")
        before = self.looks()
        self.assertEqual(other.say("floor ###"), "ok")
        self.assertEqual(other.say("length 3"), "ok")
        self.assertEqual(other.say("fill"), "ok")
        self.assertEqual(self.looks(), before)
        self.do("undo", "undo", "undo")
        self.assertEqual(other.say("bars"), "00a")
        self.assertEqual(self.looks(), self.looks(Desk()))
        self.denies(NoRow, "undo")
        self.assertEqual(other.say("undo"), "ok")
        self.assertEqual(other.say("bars"), "none")


class Model:
    """The desk once more, by trying: it keeps what it was at each deed, and finds all among all packings."""

    def __init__(self):
        self.states = [(((0, 0),), 2, ())]

    def refused(self, row):
        """The class that refuses the row, None where it is answered; a deed that is answered is done."""
        floor, length, packing = self.states[-1]
        word, _, text = row.partition(" ")
        deed = getattr(self, "do_" + word)
        state = deed(floor, length, packing, text)
        if isinstance(state, tuple):
            self.states.append(state)
            return None
        return state

    def do_floor(self, floor, length, packing, text):
        lines = [] if text == "-" else text.split("/")
        return (drawn(*lines), length, ())

    def do_length(self, floor, length, packing, text):
        return (floor, int(text), ()) if text in ("2", "3", "4", "5") else NoLength

    def do_put(self, floor, length, packing, text):
        bar = (int(text[0]), int(text[1]), "ad".index(text[2]))
        new = tuple(sorted(set(packing) | {bar}))
        return (floor, length, new) if bar not in packing and new in packings_by_trying(floor, length) else NoBars

    def do_take(self, floor, length, packing, text):
        bar = (int(text[0]), int(text[1]), "ad".index(text[2]))
        return (floor, length, tuple(sorted(set(packing) - {bar}))) if bar in packing else NoBars

    def do_fill(self, floor, length, packing, text):
        filling = first_filling(floor, length)
        return NoBars if filling is None else (floor, length, filling)

    def do_turn(self, floor, length, packing, text):
        if len(packing) * length != len(floor):
            return NoBars
        row, column = int(text[0]), int(text[1])
        square = {(row + down, column + right) for down in range(length) for right in range(length)}
        inside = {bar for bar in packing if square.issuperset(cells_by_hand(bar, length))}
        across = {(row + step, column, 0) for step in range(length)}
        down = {(row, column + step, 1) for step in range(length)}
        for old, new in ((across, down), (down, across)):
            if inside == old:
                return (floor, length, tuple(sorted(set(packing) - old | new)))
        return NoTurn

    def do_undo(self, floor, length, packing, text):
        if len(self.states) == 1:
            return NoRow
        self.states.pop()
        return None


class ManyRows(Telling):
    FLOORS = ("##/##", "###/###", "####/####", "###/#.#/###", "##.##/##.##", "###/###/###", "-", "#", ".##/.##", "####")

    def rows(self, chance, many):
        for _ in range(many):
            row, column = chance.randrange(3), chance.randrange(4)
            yield chance.choices([
                "floor " + chance.choice(self.FLOORS), f"length {chance.choice((2, 2, 2, 3, 3, 4, 5, 6, 0))}",
                f"put {row}{column}{chance.choice('ad')}", f"take {row}{column}{chance.choice('ad')}",
                f"turn {row}{column}", "fill", "undo"], weights=[2, 2, 12, 4, 8, 4, 6])[0]

    def test_rows_as_they_come(self):
        # The same rows in each run: they hang on a written seed.
        for seed in range(12):
            desk, model = Desk(), Model()
            for row in self.rows(random.Random(seed), 250):
                error = model.refused(row)
                if error is None:
                    self.assertEqual(desk.say(row), "ok")
                else:
                    self.refuses(error, desk.say, row)
                floor, length, packing = model.states[-1]
                self.assertEqual(desk.say("show"), floor_text(floor))
                self.assertEqual(desk.say("bars"), bars_text(packing))
                covered = [cell for bar in packing for cell in cells_by_hand(bar, length)]
                left = " ".join(f"{row}{column}" for row, column in floor if (row, column) not in covered)
                self.assertEqual(desk.say("left"), left or "none")
                self.assertEqual(desk.say("many"), str(many_fillings(floor, length)))
                most = max(len(bars) for bars in packings_by_trying(floor, length))
                self.assertEqual(desk.say("most"), str(most))
                for number, filling in enumerate(all_fillings(floor, length)):
                    self.assertEqual(desk.say(f"at {number}"), bars_text(filling))


if __name__ == "__main__":
    unittest.main()
