import itertools
import unittest

from barfloors.bars import bars_of
from barfloors.errors import NoLength
from barfloors.floors import box_floor
from barfloors.most import most_packing
from barfloors.nets import is_net, least_hue
from tests.things import (
    FORTY_FIGURES, LENGTHS, Asking, bars_by_trying, cells_by_hand, drawn, no_lengths, odd_things, packings_by_trying,
    some_floors, subsets_of_box)

SQUARE = box_floor(2, 2)


def hue_by_hand(floor, length, hue):
    return tuple(cell for cell in floor if sum(cell) % length == hue)


class IsNet(Asking):
    def yes(self, floor, length, thing):
        self.assertIs(is_net(floor, length, thing), True, thing)

    def no(self, floor, length, thing):
        self.assertIs(is_net(floor, length, thing), False, thing)

    def test_of_a_square(self):
        self.yes(SQUARE, 2, ((0, 0), (1, 1)))
        self.yes(SQUARE, 2, ((0, 1), (1, 0)))
        self.yes(SQUARE, 2, ((0, 0), (0, 1), (1, 0)))
        self.yes(SQUARE, 2, SQUARE)
        self.no(SQUARE, 2, ())
        self.no(SQUARE, 2, ((0, 0),))
        self.no(SQUARE, 2, ((0, 0), (0, 1)))
        self.no(SQUARE, 2, ((0, 0), (1, 0)))
        self.yes(SQUARE, 3, ())
        self.yes(SQUARE, 3, ((0, 1),))

    def test_floors_without_bars(self):
        for length in LENGTHS:
            self.yes((), length, ())
            self.no((), length, ((0, 0),))
            self.yes(((3, 3),), length, ())
            self.yes(((3, 3),), length, ((3, 3),))
            self.no(((3, 3),), length, ((3, 4),))

    def test_forty_cells(self):
        for floor in (box_floor(5, 8), box_floor(8, 5)):
            for length in LENGTHS:
                self.yes(floor, length, floor)
                self.no(floor, length, ())
                for hue in range(length):
                    cells = hue_by_hand(floor, length, hue)
                    self.yes(floor, length, cells)
        # No hue of the length 2, 4 or 5 can lose a cell here: each of them has as many as there are bars in a filling.
        for length in (2, 4, 5):
            cells = hue_by_hand(box_floor(5, 8), length, 0)
            for at in range(len(cells)):
                self.no(box_floor(5, 8), length, cells[:at] + cells[at + 1:])

    def test_cells_that_are_not_of_the_floor(self):
        self.no(SQUARE, 2, ((0, 0), (1, 1), (2, 2)))
        self.no(SQUARE, 2, SQUARE + ((7, 7),))
        self.no(SQUARE, 2, ((-1, 0), (0, 0), (1, 1)))
        self.no(drawn("##"), 2, ((0, 0), (1, 0)))

    def test_cells_that_do_not_rise(self):
        self.no(SQUARE, 2, ((1, 1), (0, 0)))
        self.no(SQUARE, 2, ((0, 0), (0, 0), (1, 1)))
        self.no(SQUARE, 2, ((0, 0), (1, 1), (1, 1)))

    def test_lists_truths_and_other_parts(self):
        for thing in ([(0, 0), (1, 1)], ([0, 0], [1, 1]), ((0, 0), [1, 1]), ((False, 0), (1, 1)), ((0, 0), (True, 1)),
                      ((0, 0), (1, True)), ((0, 0, 0), (1, 1, 0)), ((0,), (1,)), ((0, 0), (1, 1), None), (0, 0), (1, 1),
                      ((0, 0), ("1", "1")), (None, (1, 1)), (((0, 0), (1, 1)),), {(0, 0): 1, (1, 1): 1}, "0011", None,
                      ((0, 0), (1, FORTY_FIGURES)), ((-FORTY_FIGURES, 0), (1, 1)), ((0, 0), ()), True, False, 0, [],
                      {}):
            self.no(SQUARE, 2, thing)
        for thing in ([], {}, None, False, 0, "", [()]):
            self.no((), 2, thing)

    def test_things_of_every_other_kind(self):
        things = odd_things()
        for floor in ((), ((0, 0),), SQUARE, box_floor(5, 8)):
            for thing in things:
                self.no(floor, 2, thing)
        self.assertEqual(repr(things), repr(odd_things()))

    def test_all_lots_of_cells_of_small_floors(self):
        floors = [box_floor(2, 4), box_floor(3, 3), drawn("###", "#.#", "###"), drawn("##.##", ".###"), drawn("#.#")]
        for floor in floors:
            for length in (2, 3, 4):
                bars = [set(cells_by_hand(bar, length)) for bar in bars_by_trying(floor, length)]
                most = len(most_packing(floor, length))
                for many in range(len(floor) + 1):
                    for lot in itertools.combinations(floor, many):
                        right = all(bar & set(lot) for bar in bars)
                        self.assertIs(is_net(floor, length, lot), right)
                        self.assertTrue(not right or many >= most)

    def test_no_net_has_fewer_cells_than_a_packing_has_bars(self):
        for floor in subsets_of_box(2, 4):
            for length in (2, 3, 4):
                most = max(len(packing) for packing in packings_by_trying(floor, length))
                for many in range(most):
                    for lot in itertools.combinations(floor, many):
                        self.no(floor, length, lot)

    def test_what_is_no_length(self):
        for length in no_lengths():
            for floor in ((), SQUARE):
                for thing in ((), None, SQUARE):
                    self.refuses(NoLength, is_net, floor, length, thing)


class LeastHue(Asking):
    def test_ordinary(self):
        self.assertEqual(least_hue(box_floor(3, 3), 2), (1, ((0, 1), (1, 0), (1, 2), (2, 1))))
        self.assertEqual(least_hue(drawn("##"), 3), (2, ()))
        self.assertEqual(least_hue(drawn(".#"), 2), (0, ()))
        self.assertEqual(least_hue(((0, 0), (0, 2), (1, 0)), 2), (1, ((1, 0),)))
        self.assertEqual(least_hue(box_floor(6, 6), 4)[0], 3)

    def test_the_least_of_several(self):
        self.assertEqual(least_hue(SQUARE, 2), (0, ((0, 0), (1, 1))))
        self.assertEqual(least_hue(box_floor(3, 3), 3), (0, ((0, 0), (1, 2), (2, 1))))
        self.assertEqual(least_hue(((0, 0),), 5), (1, ()))
        self.assertEqual(least_hue(((7, 7),), 5), (0, ()))

    def test_floor_without_cells(self):
        for length in LENGTHS:
            self.assertEqual(least_hue((), length), (0, ()))

    def test_each_floor_by_hand(self):
        for floor in some_floors():
            for length in LENGTHS:
                all_hues = [(hue, hue_by_hand(floor, length, hue)) for hue in range(length)]
                fewest = min(len(cells) for hue, cells in all_hues)
                told = least_hue(floor, length)
                self.assertEqual(told, [pair for pair in all_hues if len(pair[1]) == fewest][0])
                self.assertIsInstance(told, tuple)
                self.assertIsInstance(told[1], tuple)

    def test_each_hue_is_a_net(self):
        for floor in some_floors():
            for length in LENGTHS:
                for hue in range(length):
                    self.assertIs(is_net(floor, length, hue_by_hand(floor, length, hue)), True)
                self.assertGreaterEqual(len(least_hue(floor, length)[1]), len(most_packing(floor, length)))

    def test_each_bar_has_one_cell_of_it(self):
        for floor in some_floors():
            for length in LENGTHS:
                cells = least_hue(floor, length)[1]
                for bar in bars_of(floor, length):
                    self.assertEqual(len(set(cells_by_hand(bar, length)) & set(cells)), 1)

    def test_what_is_no_length(self):
        for length in no_lengths():
            for floor in ((), SQUARE, box_floor(5, 8)):
                self.refuses(NoLength, least_hue, floor, length)


if __name__ == "__main__":
    unittest.main()
