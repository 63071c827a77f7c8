import itertools
import unittest

from barfloors.bars import bars_of
from barfloors.errors import NoBars, NoBox, NoLength
from barfloors.fillings import many_fillings
from barfloors.floors import box_floor, mirrored
from barfloors.most import box_left, is_packing, left_over, most_packing
from barfloors.rests import hues
from tests.things import (
    FORTY_FIGURES, LENGTHS, Asking, cells_by_hand, drawn, no_lengths, odd_things, packings_by_trying, some_floors,
    subsets_of_box)

SQUARE = box_floor(2, 2)
FAR = 10 ** 9


class IsPacking(Asking):
    def yes(self, floor, length, thing):
        self.assertIs(is_packing(floor, length, thing), True, thing)

    def no(self, floor, length, thing):
        self.assertIs(is_packing(floor, length, thing), False, thing)

    def test_of_a_square(self):
        for packing in ((), ((0, 0, 0),), ((0, 0, 1),), ((0, 1, 1),), ((1, 0, 0),), ((0, 0, 0), (1, 0, 0)),
                        ((0, 0, 1), (0, 1, 1))):
            self.yes(SQUARE, 2, packing)

    def test_none_is_a_packing_of_each_floor(self):
        for floor in some_floors():
            for length in LENGTHS:
                self.yes(floor, length, ())

    def test_floor_without_cells_and_of_one_cell(self):
        for length in LENGTHS:
            self.no((), length, ((0, 0, 0),))
            self.no(((0, 0),), length, ((0, 0, 0),))

    def test_a_cell_in_two(self):
        self.no(SQUARE, 2, ((0, 0, 0), (0, 0, 1)))
        self.no(SQUARE, 2, ((0, 0, 0), (0, 1, 1)))
        self.no(drawn("###"), 2, ((0, 0, 0), (0, 1, 0)))
        self.no(SQUARE, 2, ((0, 0, 0), (0, 0, 0)))

    def test_bars_beyond_the_floor(self):
        self.no(SQUARE, 2, ((0, 1, 0),))
        self.no(SQUARE, 2, ((-1, 0, 1),))
        self.no(SQUARE, 2, ((0, 0, 0), (5, 5, 0)))
        self.no(SQUARE, 3, ((0, 0, 0),))
        self.no(SQUARE, 2, ((-40, 40, 1),))

    def test_bars_that_do_not_rise(self):
        self.no(SQUARE, 2, ((1, 0, 0), (0, 0, 0)))
        self.no(SQUARE, 2, ((0, 1, 1), (0, 0, 1)))

    def test_lists_truths_and_other_parts(self):
        for thing in ([], [(0, 0, 0)], ([0, 0, 0],), ((0, 0),), ((0, 0, 0, 0),), ((0, 0, False),), ((False, 0, 0),),
                      ((0, 0, 2),), ((0, 0, -1),), (None,), ((0, 0, None),), (0, 0, 0), (((0, 0, 0),),), ("000",),
                      ((0, 0, 0), None), ((0, 0, 0), [1, 0, 0]), ((0, 0, 0), (1, 0, "0")), {}, {(0, 0, 0): 1}, "", 0,
                      ((FORTY_FIGURES, 0, 0),), ((0, -FORTY_FIGURES, 0),), ((0, 0, FORTY_FIGURES),), None, False):
            self.no(SQUARE, 2, thing)

    def test_things_of_every_other_kind(self):
        things = odd_things()
        for floor in ((), SQUARE, box_floor(5, 8)):
            for thing in things:
                self.no(floor, 2, thing)
        self.assertEqual(repr(things), repr(odd_things()))

    def test_all_lots_of_bars_of_small_floors(self):
        for floor, length in ((box_floor(2, 3), 2), (drawn("###", "#.#", "###"), 2), (box_floor(3, 3), 3)):
            packings = set(packings_by_trying(floor, length))
            bars = bars_of(floor, length)
            for many in range(len(bars) + 1):
                for lot in itertools.combinations(bars, many):
                    self.assertIs(is_packing(floor, length, lot), lot in packings)

    def test_what_is_no_length(self):
        for length in no_lengths():
            for thing in ((), None, ((0, 0, 0),)):
                self.refuses(NoLength, is_packing, SQUARE, length, thing)


class LeftOver(Asking):
    def test_ordinary(self):
        self.assertEqual(left_over(SQUARE, 2, ()), SQUARE)
        self.assertEqual(left_over(SQUARE, 2, ((0, 0, 0),)), ((1, 0), (1, 1)))
        self.assertEqual(left_over(SQUARE, 2, ((0, 1, 1),)), ((0, 0), (1, 0)))
        self.assertEqual(left_over(SQUARE, 2, ((0, 0, 1), (0, 1, 1))), ())
        self.assertEqual(left_over(box_floor(3, 3), 3, ((0, 1, 1),)),
                         ((0, 0), (0, 2), (1, 0), (1, 2), (2, 0), (2, 2)))
        self.assertEqual(left_over((), 2, ()), ())

    def test_all_packings_of_small_floors(self):
        for floor, length in ((box_floor(3, 4), 2), (box_floor(3, 4), 3), (drawn("###", "#.#", "###"), 2)):
            for packing in packings_by_trying(floor, length):
                covered = {cell for bar in packing for cell in cells_by_hand(bar, length)}
                told = left_over(floor, length, packing)
                self.assertEqual(told, tuple(sorted(set(floor) - covered)))
                self.assertEqual(len(told), len(floor) - length * len(packing))

    def test_what_is_no_packing(self):
        for thing in [[], ((0, 0, 0), (0, 0, 1)), ((0, 1, 0),), ((1, 0, 0), (0, 0, 0)), (0, 0, 0), ((0, 0, True),), 0,
                      [(0, 0, 0)], ((0, 0),)] + odd_things():
            self.refuses(NoBars, left_over, SQUARE, 2, thing)
        self.refuses(NoBars, left_over, (), 2, ((0, 0, 0),))

    def test_the_length_is_looked_at_first(self):
        for length in no_lengths():
            for thing in ((), None, ((0, 0, 0),)):
                self.refuses(NoLength, left_over, SQUARE, length, thing)


class MostPacking(Asking):
    def look(self, floor, length, many):
        told = most_packing(floor, length)
        self.assertIs(is_packing(floor, length, told), True)
        self.assertEqual(len(told), many, (floor, length))

    def test_small_floors(self):
        self.look(SQUARE, 2, 2)
        self.look(box_floor(3, 3), 2, 4)
        self.look(drawn("#.#", "###", "#.#"), 2, 2)
        self.look(drawn("#.#", "###", "#.#"), 3, 2)
        self.look(drawn(".#.", "###", ".#."), 2, 1)
        self.look(drawn(".#.", "###", ".#."), 3, 1)
        self.look(drawn("#####"), 2, 2)
        self.look(drawn("#.#.#"), 2, 0)

    def test_floor_without_cells_and_of_one_cell(self):
        for length in LENGTHS:
            self.look((), length, 0)
            self.look(((4, 4),), length, 0)

    def test_first_steps_that_look_good_may_be_wrong(self):
        self.look(drawn(".###", "##..", "#"), 3, 1)
        self.look(drawn("####", "#..#", "#..#", "#..#"), 3, 3)
        self.look(drawn(".#..", "####", ".#..", ".#.."), 4, 1)

    def test_all_small_floors_by_trying(self):
        for floor in subsets_of_box(3, 4):
            for length in (2, 3, 4):
                self.look(floor, length, max(len(packing) for packing in packings_by_trying(floor, length)))

    def test_middling_floors_by_trying(self):
        for floor, lengths in (
                (box_floor(5, 5), (3, 4, 5)), (box_floor(4, 6), (3, 4, 5)), (box_floor(4, 4), (2, 3, 4)),
                (drawn("####", "#..#", "####", "#.##"), LENGTHS),
                (drawn("..###", ".####", "#####", "####", "#"), LENGTHS)):
            for length in lengths:
                self.look(floor, length, max(len(packing) for packing in packings_by_trying(floor, length)))

    def test_a_floor_that_can_be_filled_is_filled(self):
        for floor in some_floors():
            for length in LENGTHS:
                told = most_packing(floor, length)
                self.assertIs(is_packing(floor, length, told), True)
                self.assertEqual(len(told) * length == len(floor), many_fillings(floor, length) > 0)
                self.assertLessEqual(len(told), min(hues(floor, length)))
                self.assertEqual(len(told), len(most_packing(mirrored(floor), length)))

    def test_boxes_leave_what_is_told_of_them(self):
        for high in range(1, 9):
            for wide in range(1, min(8, 40 // high) + 1):
                for length in LENGTHS:
                    left = left_over(box_floor(high, wide), length, most_packing(box_floor(high, wide), length))
                    self.assertEqual(len(left), box_left(high, wide, length), (high, wide, length))

    def test_the_same_asked_again(self):
        for floor in some_floors():
            self.assertEqual(most_packing(floor, 3), most_packing(floor, 3))

    def test_what_is_no_length(self):
        for length in no_lengths():
            for floor in ((), SQUARE, box_floor(5, 8)):
                self.refuses(NoLength, most_packing, floor, length)


class BoxLeft(Asking):
    def test_both_sides_at_least_the_length(self):
        self.assertEqual(box_left(6, 6, 4), 4)
        self.assertEqual(box_left(7, 7, 4), 1)
        self.assertEqual(box_left(5, 5, 3), 1)
        self.assertEqual(box_left(5, 5, 2), 1)
        self.assertEqual(box_left(8, 6, 5), 3)
        self.assertEqual(box_left(8, 8, 5), 4)
        self.assertEqual(box_left(9, 9, 5), 1)
        self.assertEqual(box_left(5, 7, 5), 0)
        self.assertEqual(box_left(5, 5, 5), 0)

    def test_one_side_at_least_the_length(self):
        self.assertEqual(box_left(3, 7, 4), 9)
        self.assertEqual(box_left(7, 3, 4), 9)
        self.assertEqual(box_left(1, 8, 3), 2)
        self.assertEqual(box_left(8, 1, 3), 2)
        self.assertEqual(box_left(4, 9, 5), 16)
        self.assertEqual(box_left(9, 4, 5), 16)
        for length in LENGTHS:
            for other in range(1, length):
                self.assertEqual(box_left(other, length, length), 0)
                self.assertEqual(box_left(length, other, length), 0)

    def test_no_side_at_least_the_length(self):
        self.assertEqual(box_left(1, 1, 2), 1)
        self.assertEqual(box_left(4, 3, 5), 12)
        self.assertEqual(box_left(4, 4, 5), 16)

    def test_far_sides(self):
        self.assertEqual(box_left(FAR, FAR, 3), 1)
        self.assertEqual(box_left(FAR - 2, FAR - 2, 4), 4)
        self.assertEqual(box_left(FAR, 7, 2), 0)
        self.assertEqual(box_left(2, FAR, 3), 2)
        self.assertEqual(box_left(FAR, 2, 3), 2)
        self.assertEqual(box_left(FAR - 1, FAR - 1, 5), 1)

    def test_sides_of_the_same_rests_leave_as_much(self):
        for length in LENGTHS:
            for high in range(length, 2 * length):
                for wide in range(length, 2 * length):
                    self.assertEqual(box_left(high, wide, length), box_left(wide, high, length))
                    self.assertEqual(box_left(high + 10 * length, wide + length, length), box_left(high, wide, length))

    def test_what_is_no_side(self):
        for side in odd_things() + [0, -1, FAR + 1, (1,), "1", [1]]:
            self.refuses(NoBox, box_left, side, 3, 2)
            self.refuses(NoBox, box_left, 3, side, 2)

    def test_what_is_no_length(self):
        for length in no_lengths():
            self.refuses(NoLength, box_left, 3, 3, length)
            self.refuses(NoLength, box_left, FAR, 1, length)

    def test_the_sides_are_looked_at_first(self):
        for length in no_lengths():
            self.refuses(NoBox, box_left, 0, 3, length)
            self.refuses(NoBox, box_left, 3, True, length)


if __name__ == "__main__":
    unittest.main()
