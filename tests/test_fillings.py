import copy
import unittest

from barfloors.bars import bars_of
from barfloors.errors import NoBars, NoLength, NoNumber, TooMany
from barfloors.fillings import (
    all_fillings, bar_counts, filling_at, first_filling, is_filling, many_fillings, many_with, number_of)
from barfloors.floors import box_floor, mirrored
from barfloors.rests import hues
from tests.things import (
    FORTY_FIGURES, LENGTHS, Asking, cells_by_hand, drawn, fillings_by_trying, no_lengths, odd_things, some_floors,
    subsets_of_box)

SQUARE = box_floor(2, 2)
TWO_ACROSS = ((0, 0, 0), (1, 0, 0))
TWO_DOWN = ((0, 0, 1), (0, 1, 1))
# Floors that no bars fill, each with its length: an odd one, a board without two corners, one with sums as rests.
UNFILLED = [
    (((0, 0),), 2), (box_floor(3, 3), 2), (drawn("#..#"), 2), (box_floor(5, 8), 3), (box_floor(6, 6), 4),
    (box_floor(6, 6), 5), (tuple(cell for cell in box_floor(6, 6) if cell not in ((0, 0), (5, 5))), 2),
]
# Strips of two rows have as many fillings as the numbers that are each the sum of the both ahead.
STRIPS_OF_TWO = [1, 2, 3, 5, 8, 13, 21, 34]


class IsFilling(Asking):
    def yes(self, floor, length, thing):
        self.assertIs(is_filling(floor, length, thing), True, thing)

    def no(self, floor, length, thing):
        self.assertIs(is_filling(floor, length, thing), False, thing)

    def test_both_fillings_of_a_square(self):
        self.yes(SQUARE, 2, TWO_ACROSS)
        self.yes(SQUARE, 2, TWO_DOWN)

    def test_floor_without_cells(self):
        for length in LENGTHS:
            self.yes((), length, ())
            self.no((), length, ((0, 0, 0),))
            self.no((), length, [])

    def test_one_cell(self):
        for length in LENGTHS:
            self.no(((0, 0),), length, ())
            self.no(((0, 0),), length, ((0, 0, 0),))

    def test_forty_cells(self):
        for length in (2, 4):
            across = tuple((row, column, 0) for row in range(5) for column in range(0, 8, length))
            self.yes(box_floor(5, 8), length, across)
            self.no(box_floor(5, 8), length, across[:-1])
            self.no(box_floor(8, 5), length, across)
        self.yes(box_floor(5, 8), 5, tuple((0, column, 1) for column in range(8)))
        self.yes(box_floor(8, 5), 5, tuple((row, 0, 0) for row in range(8)))

    def test_a_cell_in_none_or_in_two(self):
        self.no(SQUARE, 2, ())
        self.no(SQUARE, 2, ((0, 0, 0),))
        self.no(SQUARE, 2, ((0, 0, 0), (0, 1, 1)))
        self.no(SQUARE, 2, ((0, 0, 0), (0, 0, 1)))
        self.no(SQUARE, 2, ((0, 0, 0), (0, 0, 1), (1, 0, 0)))
        self.no(SQUARE, 2, ((0, 0, 0), (0, 0, 1), (0, 1, 1), (1, 0, 0)))

    def test_bars_beyond_the_floor(self):
        self.no(SQUARE, 2, TWO_ACROSS + ((2, 0, 0),))
        self.no(drawn("##"), 2, ((0, 1, 0),))
        self.no(drawn("##"), 2, ((0, -1, 0), (0, 1, 0)))
        self.no(drawn("##"), 2, ((0, 0, 1), (0, 1, 1)))
        self.no(drawn("##"), 2, ((-40, -40, 0), (0, 0, 0)))

    def test_bars_that_do_not_rise(self):
        self.no(SQUARE, 2, TWO_ACROSS[::-1])
        self.no(SQUARE, 2, TWO_DOWN[::-1])
        self.no(drawn("##"), 2, ((0, 0, 0), (0, 0, 0)))

    def test_another_length(self):
        self.no(SQUARE, 3, TWO_ACROSS)
        self.no(drawn("####"), 4, ((0, 0, 0), (0, 2, 0)))
        self.yes(drawn("####"), 4, ((0, 0, 0),))
        self.no(drawn("###"), 3, ((0, 0, 1),))

    def test_lists_truths_and_other_parts(self):
        self.no(SQUARE, 2, list(TWO_ACROSS))
        self.no(SQUARE, 2, tuple(list(bar) for bar in TWO_ACROSS))
        self.no(SQUARE, 2, ((0, 0, False), (1, 0, 0)))
        self.no(SQUARE, 2, ((0, 0, 0), (True, 0, 0)))
        self.no(SQUARE, 2, ((False, 0, 1), (0, True, 1)))
        self.no(SQUARE, 2, ((0, 0), (1, 0)))
        self.no(SQUARE, 2, ((0, 0, 0, 0), (1, 0, 0, 0)))
        self.no(SQUARE, 2, ((0, 0, 0), (1, 0, 2)))
        self.no(SQUARE, 2, ((0, 0, 0), None))
        self.no(SQUARE, 2, (None, (1, 0, 0)))
        self.no(SQUARE, 2, ((0, 0, 0), (1, "0", 0)))
        self.no(SQUARE, 2, (TWO_ACROSS,))
        self.no(SQUARE, 2, {(0, 0, 0): True, (1, 0, 0): True})
        self.no(SQUARE, 2, "(0, 0, 0), (1, 0, 0)")

    def test_numbers_far_off(self):
        for far in (41, -41, 10 ** 9, FORTY_FIGURES, -FORTY_FIGURES):
            self.no(SQUARE, 2, ((0, 0, 0), (far, 0, 0)))
            self.no(SQUARE, 2, ((far, 0, 0), (0, 0, 0)))
            self.no(SQUARE, 2, ((0, 0, 0), (1, far, 0)))

    def test_things_of_every_other_kind(self):
        for floor in ((), SQUARE, box_floor(5, 8)):
            for thing in odd_things() + [0, 1]:
                self.no(floor, 2, thing)
        things = odd_things()
        for thing in things:
            is_filling(SQUARE, 2, thing)
        self.assertEqual(repr(things), repr(odd_things()))

    def test_what_is_no_length(self):
        for length in no_lengths():
            for thing in (TWO_ACROSS, (), None):
                self.refuses(NoLength, is_filling, SQUARE, length, thing)


class Count(Asking):
    def test_boxes(self):
        known = {(5, 8, 2): 14824, (8, 5, 2): 14824, (6, 6, 2): 6728, (4, 8, 2): 2245, (4, 4, 2): 36, (3, 4, 2): 11,
                 (3, 3, 3): 2, (3, 4, 3): 3, (3, 5, 3): 4, (3, 6, 3): 6, (6, 6, 3): 64, (4, 8, 4): 7, (5, 8, 5): 5,
                 (5, 5, 5): 2, (4, 4, 4): 2, (5, 4, 4): 3, (5, 5, 2): 0, (1, 8, 2): 1, (8, 1, 4): 1}
        for (high, wide, length), many in known.items():
            self.assertEqual(many_fillings(box_floor(high, wide), length), many, (high, wide, length))

    def test_strips_of_two_rows(self):
        for wide, many in enumerate(STRIPS_OF_TWO, start=1):
            self.assertEqual(many_fillings(box_floor(2, wide), 2), many)

    def test_floor_without_cells_and_of_one_cell(self):
        for length in LENGTHS:
            self.assertEqual(many_fillings((), length), 1)
            self.assertEqual(many_fillings(((3, 4),), length), 0)

    def test_floors_that_no_bars_fill(self):
        for floor, length in UNFILLED:
            self.assertEqual(many_fillings(floor, length), 0)

    def test_pieces_multiply(self):
        floor = drawn("##.##.##", "##.##.##")
        self.assertEqual(many_fillings(floor, 2), 8)
        self.assertEqual(many_fillings(drawn("###", "#.#", "###"), 2), 2)

    def test_a_floor_mirrored_has_as_many(self):
        for floor in some_floors():
            for length in LENGTHS:
                self.assertEqual(many_fillings(floor, length), many_fillings(mirrored(floor), length))

    def test_what_can_be_filled_has_as_many_cells_of_each_hue(self):
        for floor in some_floors():
            for length in LENGTHS:
                if many_fillings(floor, length):
                    self.assertEqual(len(set(hues(floor, length))), 1)

    def test_what_is_no_length(self):
        for length in no_lengths():
            for floor in ((), SQUARE):
                for deed in (many_fillings, first_filling, all_fillings, bar_counts):
                    self.refuses(NoLength, deed, floor, length)


class Order(Asking):
    def test_all_of_small_floors(self):
        self.assertEqual(all_fillings(SQUARE, 2), [TWO_ACROSS, TWO_DOWN])
        self.assertEqual(all_fillings(box_floor(2, 3), 2), [
            ((0, 0, 0), (0, 2, 1), (1, 0, 0)), ((0, 0, 1), (0, 1, 0), (1, 1, 0)), ((0, 0, 1), (0, 1, 1), (0, 2, 1))])
        self.assertEqual(all_fillings((), 2), [()])
        self.assertEqual(all_fillings(((0, 0),), 2), [])
        self.assertEqual(first_filling(SQUARE, 2), TWO_ACROSS)
        self.assertEqual(filling_at(SQUARE, 2, 1), TWO_DOWN)
        self.assertEqual(number_of(SQUARE, 2, TWO_DOWN), 1)

    def look(self, floor, length):
        by_trying = fillings_by_trying(floor, length)
        self.assertEqual(many_fillings(floor, length), len(by_trying))
        self.assertEqual(all_fillings(floor, length), by_trying)
        self.assertEqual(first_filling(floor, length), by_trying[0] if by_trying else None)
        for number, filling in enumerate(by_trying):
            self.assertEqual(filling_at(floor, length, number), filling)
            self.assertEqual(number_of(floor, length, filling), number)
            self.assertIs(is_filling(floor, length, filling), True)
        self.refuses(NoNumber, filling_at, floor, length, len(by_trying))
        self.refuses(NoNumber, filling_at, floor, length, -1)

    def test_all_small_floors_by_trying(self):
        for floor in subsets_of_box(3, 4):
            for length in (2, 3):
                self.look(floor, length)
        for floor in subsets_of_box(2, 5):
            for length in (4, 5):
                self.look(floor, length)

    def test_middling_floors_by_trying(self):
        for floor in (box_floor(4, 4), drawn("####", "#..#", "####"), drawn(".##.", "####", "####", ".##.")):
            self.look(floor, 2)
        self.look(box_floor(4, 6), 3)
        self.look(box_floor(4, 6), 4)
        self.look(box_floor(5, 6), 5)
        self.look(drawn("........", "...##", "...##.##", "......##"), 2)

    def test_numbers_lead_there_and_back_where_there_are_many(self):
        for floor, length in ((box_floor(5, 8), 2), (box_floor(8, 5), 2), (box_floor(6, 6), 2), (box_floor(6, 6), 3)):
            many = many_fillings(floor, length)
            numbers = sorted({0, 1, 2, many // 3, many // 2, many // 2 + 1, many - 2, many - 1})
            fillings = [filling_at(floor, length, number) for number in numbers]
            self.assertEqual(fillings, sorted(fillings))
            self.assertEqual(fillings[0], first_filling(floor, length))
            self.assertEqual([number_of(floor, length, filling) for filling in fillings], numbers)
            self.assertTrue(all(is_filling(floor, length, filling) for filling in fillings))
            self.refuses(NoNumber, filling_at, floor, length, many)

    def test_first_one(self):
        self.assertEqual(first_filling((), 5), ())
        self.assertIsNone(first_filling(((0, 0),), 2))
        for floor, length in UNFILLED:
            self.assertIsNone(first_filling(floor, length))
        across = tuple((row, column, 0) for row in range(5) for column in range(0, 8, 2))
        self.assertEqual(first_filling(box_floor(5, 8), 2), across)
        self.assertEqual(first_filling(box_floor(5, 8), 5), (
            (0, 0, 0), (0, 5, 1), (0, 6, 1), (0, 7, 1), (1, 0, 0), (2, 0, 0), (3, 0, 0), (4, 0, 0)))
        self.assertEqual(first_filling(box_floor(5, 4), 5), ((0, 0, 1), (0, 1, 1), (0, 2, 1), (0, 3, 1)))

    def test_kinds(self):
        self.assertIsInstance(first_filling(SQUARE, 2), tuple)
        self.assertIsInstance(filling_at(SQUARE, 2, 0), tuple)
        self.assertIsInstance(all_fillings(SQUARE, 2), list)
        self.assertIsInstance(all_fillings(SQUARE, 2)[0], tuple)

    def test_numbers_that_are_none(self):
        for number in odd_things() + [-1, 2, 3, (), (0,), "1", [1]]:
            self.refuses(NoNumber, filling_at, SQUARE, 2, number)
        for number in (0, 1, -1, True, False, None):
            self.refuses(NoNumber, filling_at, ((0, 0),), 2, number)
        self.assertEqual(filling_at((), 3, 0), ())
        for number in (1, -1, False, None):
            self.refuses(NoNumber, filling_at, (), 3, number)

    def test_what_is_no_filling_has_no_number(self):
        wrong = [(), TWO_ACROSS[:1], TWO_ACROSS[::-1], list(TWO_ACROSS), ((0, 0, 0), (0, 0, 1)), 0, 1,
                 ((0, 0, 0), (True, 0, 0)), ((0, 0, 0), (1, 0, 0), (2, 0, 0)), [TWO_ACROSS], (TWO_ACROSS, TWO_DOWN)]
        for thing in wrong + odd_things():
            self.refuses(NoBars, number_of, SQUARE, 2, thing)
        self.refuses(NoBars, number_of, ((0, 0),), 2, ())
        self.assertEqual(number_of((), 2, ()), 0)

    def test_the_length_is_looked_at_first(self):
        for length in no_lengths():
            for thing in (0, 1, -1, None, TWO_ACROSS, (0, 0, 0)):
                self.refuses(NoLength, filling_at, SQUARE, length, thing)
                self.refuses(NoLength, number_of, SQUARE, length, thing)
                self.refuses(NoLength, many_with, SQUARE, length, thing)

    def test_lists_are_new(self):
        told = all_fillings(SQUARE, 2)
        told[0] = None
        told.append(5)
        self.assertEqual(all_fillings(SQUARE, 2), [TWO_ACROSS, TWO_DOWN])
        none = all_fillings(((0, 0),), 2)
        none.append(())
        self.assertEqual(all_fillings(((0, 0),), 2), [])


class TooManyFillings(Asking):
    def test_more_than_a_thousand(self):
        for floor in (box_floor(5, 8), box_floor(8, 5), box_floor(6, 6), box_floor(4, 8)):
            error = self.refuses(TooMany, all_fillings, floor, 2)
            self.assertEqual((error.many, error.most), (many_fillings(floor, 2), 1000))

    def test_a_thousand_and_one_more_or_less(self):
        a_thousand = drawn("######", "######", "###.##", "######", "##.###", "######")
        one_less = drawn("#######", "#######", "#######", ".######", "####..#", "###.###")
        one_more = drawn(".######", "#######", "#######", "#######", "#.###.#", "#.#####")
        for floor, many in ((one_less, 999), (a_thousand, 1000)):
            told = all_fillings(floor, 2)
            self.assertEqual(len(told), many)
            self.assertEqual(told, sorted(set(told)))
            self.assertTrue(all(is_filling(floor, 2, filling) for filling in told))
        error = self.refuses(TooMany, all_fillings, one_more, 2)
        self.assertEqual((error.many, error.most), (1001, 1000))

    def test_what_is_no_length_goes_ahead(self):
        for length in (1, 6, None, True):
            self.refuses(NoLength, all_fillings, box_floor(5, 8), length)


class WithABar(Asking):
    def test_a_square(self):
        self.assertEqual(bar_counts(SQUARE, 2), {(0, 0, 0): 1, (0, 0, 1): 1, (0, 1, 1): 1, (1, 0, 0): 1})
        self.assertEqual(many_with(SQUARE, 2, (0, 0, 0)), 1)

    def test_bars_that_no_filling_has(self):
        self.assertEqual(bar_counts(drawn("####"), 2), {(0, 0, 0): 1, (0, 1, 0): 0, (0, 2, 0): 1})
        self.assertEqual(many_with(drawn("####"), 2, (0, 1, 0)), 0)
        self.assertEqual(bar_counts(drawn("###"), 2), {(0, 0, 0): 0, (0, 1, 0): 0})
        self.assertEqual(many_with(drawn("###"), 2, (0, 1, 0)), 0)

    def test_floors_without_bars(self):
        for length in LENGTHS:
            self.assertEqual(bar_counts((), length), {})
            self.assertEqual(bar_counts(((0, 0),), length), {})

    def look(self, floor, length):
        told = bar_counts(floor, length)
        fillings = fillings_by_trying(floor, length)
        self.assertIsInstance(told, dict)
        self.assertEqual(told, {bar: sum(1 for filling in fillings if bar in filling)
                                for bar in bars_of(floor, length)})
        for bar, many in told.items():
            self.assertEqual(many_with(floor, length, bar), many)

    def test_all_small_floors_by_trying(self):
        for floor in subsets_of_box(3, 4):
            self.look(floor, 2)
        for floor in subsets_of_box(3, 3):
            self.look(floor, 3)
        for floor, length in ((box_floor(4, 4), 2), (box_floor(4, 6), 3), (box_floor(4, 6), 4), (box_floor(5, 6), 5)):
            self.look(floor, length)

    def test_the_bars_of_each_cell_come_to_all(self):
        for floor in some_floors():
            for length in LENGTHS:
                counts = bar_counts(floor, length)
                self.assertEqual(sorted(counts), bars_of(floor, length))
                sums = {cell: 0 for cell in floor}
                for bar, many in counts.items():
                    for cell in cells_by_hand(bar, length):
                        sums[cell] += many
                self.assertEqual(set(sums.values()) - {many_fillings(floor, length)}, set())

    def test_as_many_as_the_floor_without_the_bar_has(self):
        floor = box_floor(5, 8)
        for bar in ((0, 0, 0), (2, 3, 1), (4, 6, 0), (0, 1, 0)):
            less = tuple(cell for cell in floor if cell not in cells_by_hand(bar, 2))
            self.assertEqual(many_with(floor, 2, bar), many_fillings(less, 2))

    def test_what_is_no_bar_within_the_floor(self):
        wrong = [(0, 1, 0), (1, 0, 1), (2, 0, 0), (0, 0, 2), (0, -1, 0), (-40, -40, 0), (41, 0, 0), (0, 0), [0, 0, 0],
                 (0, 0, False), (False, 0, 0), (0, 0, 0, 0), ((0, 0, 0),), 0, 1, (), "000"]
        for thing in wrong + odd_things():
            self.refuses(NoBars, many_with, SQUARE, 2, thing)
        self.refuses(NoBars, many_with, (), 2, (0, 0, 0))
        self.refuses(NoBars, many_with, ((0, 0),), 5, (0, 0, 0))
        self.refuses(NoBars, many_with, SQUARE, 3, (0, 0, 0))

    def test_the_dict_is_new(self):
        told = bar_counts(SQUARE, 2)
        kept = copy.deepcopy(told)
        told[(0, 0, 0)] = 77
        del told[(1, 0, 0)]
        self.assertEqual(bar_counts(SQUARE, 2), kept)


if __name__ == "__main__":
    unittest.main()
