import itertools
import unittest

from barfloors.errors import NoBars, NoLength, NoTurn
from barfloors.fillings import all_fillings, filling_at, first_filling, is_filling, many_fillings
from barfloors.floors import box_floor
from barfloors.turns import blocks_of, rises, turned
from tests.things import (
    FORTY_FIGURES, LENGTHS, Asking, cells_by_hand, drawn, no_lengths, odd_things, some_floors, subsets_of_box)

SQUARE = box_floor(2, 2)
TWO_ACROSS = ((0, 0, 0), (1, 0, 0))
TWO_DOWN = ((0, 0, 1), (0, 1, 1))
RING = drawn("###", "#.#", "###")
PLACES = list(itertools.product(range(-2, 10), repeat=2))


def square_at(place, length):
    return {(place[0] + down, place[1] + right) for down in range(length) for right in range(length)}


def bars_that_fill(filling, length, place):
    """The bars that lie wholly in the square, where they fill it, all across or all down; else none."""
    square = square_at(place, length)
    inside = [bar for bar in filling if square.issuperset(cells_by_hand(bar, length))]
    if len(inside) == length and len({way for _, _, way in inside}) == 1:
        return inside
    return []


def blocks_by_trying(filling, length):
    return [place for place in PLACES if bars_that_fill(filling, length, place)]


class Blocks(Asking):
    def test_a_square_both_ways(self):
        self.assertEqual(blocks_of(SQUARE, 2, TWO_ACROSS), [(0, 0)])
        self.assertEqual(blocks_of(SQUARE, 2, TWO_DOWN), [(0, 0)])

    def test_floors_without_cells(self):
        for length in LENGTHS:
            self.assertEqual(blocks_of((), length, ()), [])

    def test_fillings_with_no_block(self):
        for filling in all_fillings(RING, 2):
            self.assertEqual(blocks_of(RING, 2, filling), [])
        for length in (3, 4, 5):
            across = tuple((row, 0, 0) for row in range(length - 1))
            self.assertEqual(blocks_of(box_floor(length - 1, length), length, across), [])
        # Bars above one another that are not just above one another make no block.
        shifted = drawn("###", ".###", "###", ".###")
        self.assertEqual(blocks_of(shifted, 3, ((0, 0, 0), (1, 1, 0), (2, 0, 0), (3, 1, 0))), [])
        apart = drawn("##", "..", "##")
        self.assertEqual(blocks_of(apart, 2, ((0, 0, 0), (2, 0, 0))), [])
        aside = drawn("##.##")
        self.assertEqual(blocks_of(aside, 2, ((0, 0, 0), (0, 3, 0))), [])

    def test_blocks_that_overlap(self):
        # Each bar but the last one begins a block with that below it, or beside it.
        across = tuple((row, 0, 0) for row in range(8))
        self.assertEqual(blocks_of(box_floor(8, 2), 2, across), [(row, 0) for row in range(7)])
        self.assertEqual(blocks_of(box_floor(8, 5), 5, across), [(row, 0) for row in range(4)])
        down = tuple((0, column, 1) for column in range(8))
        self.assertEqual(blocks_of(box_floor(2, 8), 2, down), [(0, column) for column in range(7)])
        self.assertEqual(blocks_of(box_floor(5, 8), 5, down), [(0, column) for column in range(4)])

    def test_forty_cells_and_many_blocks(self):
        across = tuple((row, column, 0) for row in range(5) for column in range(0, 8, 2))
        self.assertEqual(blocks_of(box_floor(5, 8), 2, across),
                         [(row, column) for row in range(4) for column in (0, 2, 4, 6)])
        across = tuple((row, column, 0) for row in range(5) for column in (0, 4))
        self.assertEqual(blocks_of(box_floor(5, 8), 4, across), [(0, 0), (0, 4), (1, 0), (1, 4)])

    def test_blocks_of_both_ways_rise_together(self):
        floor = drawn("##.##", "##.##", "", "...##", "...##")
        filling = ((0, 0, 1), (0, 1, 1), (0, 3, 0), (1, 3, 0), (3, 3, 1), (3, 4, 1))
        self.assertEqual(blocks_of(floor, 2, filling), [(0, 0), (0, 3), (3, 3)])

    def test_the_last_rows_and_columns(self):
        floor = tuple((row, column) for row in (6, 7) for column in (6, 7))
        self.assertEqual(blocks_of(floor, 2, ((6, 6, 0), (7, 6, 0))), [(6, 6)])
        floor = tuple((row, column) for row in range(3, 8) for column in range(3, 8))
        self.assertEqual(blocks_of(floor, 5, tuple((3, column, 1) for column in range(3, 8))), [(3, 3)])

    def look(self, floor, length):
        for filling in all_fillings(floor, length):
            told = blocks_of(floor, length, filling)
            self.assertIsInstance(told, list)
            self.assertEqual(told, blocks_by_trying(filling, length))

    def test_all_small_floors_by_trying(self):
        for floor in subsets_of_box(3, 4):
            self.look(floor, 2)
        for floor in subsets_of_box(3, 3):
            self.look(floor, 3)
        for floor, length in ((box_floor(4, 4), 2), (box_floor(3, 6), 2), (box_floor(5, 6), 3), (box_floor(6, 6), 3),
                              (box_floor(4, 8), 4), (box_floor(5, 8), 4), (box_floor(5, 8), 5)):
            self.look(floor, length)

    def test_some_floors_by_trying(self):
        for floor in some_floors():
            for length in LENGTHS:
                many = many_fillings(floor, length)
                for number in sorted({0, many // 2, many - 1} & set(range(many))):
                    filling = filling_at(floor, length, number)
                    self.assertEqual(blocks_of(floor, length, filling), blocks_by_trying(filling, length))

    def test_the_list_is_new(self):
        told = blocks_of(SQUARE, 2, TWO_ACROSS)
        told.append((7, 7))
        del told[0]
        self.assertEqual(blocks_of(SQUARE, 2, TWO_ACROSS), [(0, 0)])


class Turned(Asking):
    def test_a_square_both_ways(self):
        self.assertEqual(turned(SQUARE, 2, TWO_ACROSS, (0, 0)), TWO_DOWN)
        self.assertEqual(turned(SQUARE, 2, TWO_DOWN, (0, 0)), TWO_ACROSS)
        self.assertIs(rises(SQUARE, 2, TWO_ACROSS, (0, 0)), True)
        self.assertIs(rises(SQUARE, 2, TWO_DOWN, (0, 0)), False)

    def test_each_length(self):
        for length in LENGTHS:
            floor = box_floor(length, length)
            across = tuple((row, 0, 0) for row in range(length))
            down = tuple((0, column, 1) for column in range(length))
            self.assertEqual(turned(floor, length, across, (0, 0)), down)
            self.assertEqual(turned(floor, length, down, (0, 0)), across)
            self.assertIs(rises(floor, length, across, (0, 0)), True)
            self.assertIs(rises(floor, length, down, (0, 0)), False)

    def test_all_others_stay(self):
        filling = ((0, 0, 0), (0, 2, 1), (1, 0, 0))
        self.assertEqual(turned(box_floor(2, 3), 2, filling, (0, 0)), ((0, 0, 1), (0, 1, 1), (0, 2, 1)))
        across = tuple((row, column, 0) for row in range(5) for column in range(0, 8, 2))
        self.assertEqual(
            turned(box_floor(5, 8), 2, across, (3, 6)),
            tuple(sorted([bar for bar in across if bar not in ((3, 6, 0), (4, 6, 0))] + [(3, 6, 1), (3, 7, 1)])))
        across = tuple((row, 0, 0) for row in range(8))
        self.assertEqual(
            turned(box_floor(8, 5), 5, across, (2, 0)),
            ((0, 0, 0), (1, 0, 0)) + tuple((2, column, 1) for column in range(5)) + ((7, 0, 0),))

    def look(self, floor, length, filling):
        for place in blocks_by_trying(filling, length):
            inside = bars_that_fill(filling, length, place)
            told = turned(floor, length, filling, place)
            self.assertIs(is_filling(floor, length, told), True)
            self.assertEqual(set(filling) - set(told), set(inside))
            self.assertEqual(len(told), len(filling))
            self.assertEqual({1 - way for _, _, way in set(told) - set(filling)}, {inside[0][2]})
            self.assertIs(rises(floor, length, filling, place), inside[0][2] == 0)
            # Turned twice it is as it was, and of both turns just one rises.
            self.assertEqual(turned(floor, length, told, place), filling)
            self.assertIs(rises(floor, length, told, place), inside[0][2] == 1)

    def test_all_small_floors_by_trying(self):
        for floor in subsets_of_box(3, 4):
            for filling in all_fillings(floor, 2):
                self.look(floor, 2, filling)
        for floor, length in ((box_floor(4, 4), 2), (box_floor(3, 6), 3), (box_floor(6, 6), 3), (box_floor(5, 8), 4),
                              (box_floor(5, 8), 5)):
            for filling in all_fillings(floor, length):
                self.look(floor, length, filling)

    def test_some_floors_by_trying(self):
        for floor in some_floors():
            for length in LENGTHS:
                filling = first_filling(floor, length)
                if filling is not None:
                    self.look(floor, length, filling)

    def test_every_place_that_is_no_block(self):
        across = tuple((row, column, 0) for row in range(5) for column in range(0, 8, 2))
        for floor, filling in ((SQUARE, TWO_ACROSS), (SQUARE, TWO_DOWN), (box_floor(5, 8), across), ((), ())):
            for place in PLACES:
                if place not in blocks_by_trying(filling, 2):
                    self.refuses(NoTurn, turned, floor, 2, filling, place)
                    self.refuses(NoTurn, rises, floor, 2, filling, place)

    def test_things_that_are_no_place(self):
        wrong = [[0, 0], (False, False), (0, False), (False, 0), (0, 0, 0), (0,), (), 0, "00", "(0, 0)", ((0, 0),),
                 (0, "0"), (None, 0), (0, [0]), {0: 0}, (FORTY_FIGURES, 0), (0, -FORTY_FIGURES), (-1, -1), (True, True)]
        for thing in wrong + odd_things():
            self.refuses(NoTurn, turned, SQUARE, 2, TWO_ACROSS, thing)
            self.refuses(NoTurn, rises, SQUARE, 2, TWO_ACROSS, thing)
        across = tuple((row, 0, 0) for row in range(8))
        for thing in ((True, 0), (1, False), [1, 0]):
            self.refuses(NoTurn, turned, box_floor(8, 2), 2, across, thing)
            self.refuses(NoTurn, rises, box_floor(8, 2), 2, across, thing)


class Refusals(Asking):
    def test_what_is_no_filling(self):
        wrong = [(), TWO_ACROSS[:1], TWO_ACROSS[::-1], list(TWO_ACROSS), ((0, 0, False), (1, 0, 0)), ((0, 0), (1, 0)),
                 TWO_ACROSS + ((2, 0, 0),), ((0, 0, 0), (0, 0, 1)), 0, "000", {(0, 0, 0): 1, (1, 0, 0): 1}]
        for thing in wrong + odd_things():
            self.refuses(NoBars, blocks_of, SQUARE, 2, thing)
            for place in ((0, 0), (5, 5), None):
                self.refuses(NoBars, turned, SQUARE, 2, thing, place)
                self.refuses(NoBars, rises, SQUARE, 2, thing, place)
        for floor, length in ((((0, 0),), 2), (box_floor(3, 3), 2), (SQUARE, 3)):
            self.refuses(NoBars, blocks_of, floor, length, ())
            self.refuses(NoBars, turned, floor, length, (), (0, 0))

    def test_what_is_no_length_goes_ahead(self):
        for length in no_lengths():
            for thing in (TWO_ACROSS, (), None):
                self.refuses(NoLength, blocks_of, SQUARE, length, thing)
                for place in ((0, 0), None):
                    self.refuses(NoLength, turned, SQUARE, length, thing, place)
                    self.refuses(NoLength, rises, SQUARE, length, thing, place)


if __name__ == "__main__":
    unittest.main()
