import itertools
import random
import unittest
from collections import Counter

from barfloors.errors import NoLength
from barfloors.fillings import first_filling, many_fillings
from barfloors.floors import box_floor
from barfloors.rests import sums_of
from barfloors.signed import is_signed, signed_for
from barfloors.weights import weight_of, weights_for
from tests.things import (
    FORTY_FIGURES, LENGTHS, Asking, cells_by_hand, drawn, no_lengths, odd_things, some_floors, subsets_of_box)

# The cells at both ends of four in a row: put on, taken off and put on again.
ENDS = drawn("#..#")
OF_ENDS = (((0, 0, 0), 1), ((0, 1, 0), -1), ((0, 2, 0), 1))


def covers_by_hand(thing, length):
    covers = Counter()
    for bar, times in thing:
        for place in cells_by_hand(bar, length):
            covers[place] += times
    return {place: many for place, many in covers.items() if many}


class IsSigned(Asking):
    def yes(self, floor, length, thing):
        self.assertIs(is_signed(floor, length, thing), True, thing)

    def no(self, floor, length, thing):
        self.assertIs(is_signed(floor, length, thing), False, thing)

    def test_put_on_and_taken_off(self):
        self.yes(ENDS, 2, OF_ENDS)
        self.no(ENDS, 2, OF_ENDS[:2])
        self.no(ENDS, 2, OF_ENDS[1:])
        self.no(drawn("####"), 2, OF_ENDS)
        self.no(ENDS, 3, OF_ENDS)

    def test_a_filling_with_each_bar_once(self):
        for floor in some_floors():
            for length in LENGTHS:
                filling = first_filling(floor, length)
                if filling:
                    self.yes(floor, length, tuple((bar, 1) for bar in filling))
                    self.no(floor, length, tuple((bar, 2) for bar in filling))
                    self.no(floor, length, tuple((bar, -1) for bar in filling))
                    self.no(floor, length, filling)

    def test_floor_without_cells(self):
        for length in LENGTHS:
            self.yes((), length, ())
            self.no((), length, (((0, 0, 0), 1),))
            self.no((), length, (((0, 0, 0), 1), ((0, 0, 0), -1)))
        # Both ways of a square, one put on, the other taken off, come to nothing.
        self.yes((), 2, (((0, 0, 0), 1), ((0, 0, 1), -1), ((0, 1, 1), -1), ((1, 0, 0), 1)))
        self.yes((), 2, (((0, 0, 0), -7), ((0, 0, 1), 7), ((0, 1, 1), 7), ((1, 0, 0), -7)))

    def test_one_cell(self):
        for length in LENGTHS:
            self.no(((0, 0),), length, ())
            self.no(((0, 0),), length, (((0, 0, 0), 1),))

    def test_bars_anywhere(self):
        for row, column in itertools.product((-40, 39), repeat=2):
            noughts = (((row, column, 0), 3), ((row, column, 1), -3), ((row, column + 1, 1), -3),
                       ((row + 1, column, 0), 3))
            self.yes((), 2, noughts)
            self.yes(ENDS, 2, tuple(sorted(noughts + OF_ENDS)))
        self.yes((), 2, (((39, 39, 0), 1), ((39, 39, 1), -1), ((39, 40, 1), -1), ((40, 39, 0), 1)))

    def test_bars_beyond_where_bars_may_be(self):
        self.no((), 2, (((40, 40, 0), 1), ((40, 40, 1), -1), ((40, 41, 1), -1), ((41, 40, 0), 1)))
        self.no((), 2, (((-41, 0, 0), 1), ((-41, 0, 1), -1), ((-41, 1, 1), -1), ((-40, 0, 0), 1)))

    def test_times_of_nought(self):
        self.no(ENDS, 2, OF_ENDS + (((5, 5, 0), 0),))
        self.no((), 2, (((0, 0, 0), 0),))

    def test_a_bar_twice(self):
        bars = drawn("##")
        self.no(bars, 2, (((0, 0, 0), -1), ((0, 0, 0), 2)))
        self.no(bars, 2, (((0, 0, 0), 2), ((0, 0, 0), -1)))
        self.no((), 2, (((0, 0, 0), -1), ((0, 0, 0), 1)))
        self.yes(bars, 2, (((0, 0, 0), 1),))

    def test_parts_that_do_not_rise(self):
        self.no(ENDS, 2, OF_ENDS[::-1])
        self.no(ENDS, 2, (OF_ENDS[1], OF_ENDS[0], OF_ENDS[2]))
        for order in itertools.permutations(OF_ENDS):
            self.assertIs(is_signed(ENDS, 2, order), order == OF_ENDS)

    def test_numbers_of_forty_figures(self):
        far = FORTY_FIGURES
        self.yes((), 2, (((0, 0, 0), far), ((0, 0, 1), -far), ((0, 1, 1), -far), ((1, 0, 0), far)))
        self.no((), 2, (((0, 0, 0), far), ((0, 0, 1), -far), ((0, 1, 1), -far), ((1, 0, 0), far - 1)))
        self.no(drawn("##"), 2, (((0, 0, 0), far),))
        self.yes(drawn("##", "##"), 2, (((0, 0, 0), far), ((0, 0, 1), 1 - far), ((0, 1, 1), 1 - far), ((1, 0, 0), far)))
        self.no(drawn("##"), 2, (((0, 0, 0), 1), ((far, 0, 0), 1)))

    def test_lists_truths_and_other_parts(self):
        floor = drawn("##")
        for thing in ([((0, 0, 0), 1)], ([(0, 0, 0), 1],), (([0, 0, 0], 1),), (((0, 0, 0), True),), (((0, 0, 0), "1"),),
                      (((0, 0, False), 1),), (((False, 0, 0), 1),), (((0, 0), 1),), (((0, 0, 0, 0), 1),), ((0, 0, 0),),
                      (((0, 0, 0),),), (((0, 0, 0), 1, 1),), ((1, (0, 0, 0)),), (((0, 0, 2), 1),), (((0, 0, 0), None),),
                      ((0, 0, 0), 1), ((None, 1),), (None,), (((0, 0, 0), 1), None), (((0, 0, 0), (1,)),),
                      (((0, 0, 0), [1]),), {(0, 0, 0): 1}, ({(0, 0, 0): 1},), "((0, 0, 0), 1)", None, True, False, 0, 1,
                      (((0, 0, 0), 1), ()), (((0, 0, 0), 1), ((1, 0, 0), {})), [], {}, ()):
            self.no(floor, 2, thing)
        for thing in ([], {}, None, False, 0, "", ((),), ([],)):
            self.no((), 2, thing)

    def test_things_of_every_other_kind(self):
        things = odd_things()
        for floor in ((), ((0, 0),), drawn("##"), box_floor(5, 8)):
            for thing in things:
                self.no(floor, 2, thing)
        self.assertEqual(repr(things), repr(odd_things()))

    def test_all_lots_of_few_bars(self):
        bars = [(row, column, way) for row in (0, 1) for column in (0, 1) for way in (0, 1)] + [(0, -1, 0)]
        floors = [(), drawn("##"), drawn("##", "##"), drawn("###", "#"), ENDS, drawn("#", "#"), drawn("##", "#.", "#.")]
        for many in range(4):
            for lot in itertools.combinations(bars, many):
                for times in itertools.product((-1, 1, 2), repeat=many):
                    thing = tuple(zip(lot, times))
                    covers = covers_by_hand(thing, 2)
                    for floor in floors:
                        self.assertIs(is_signed(floor, 2, thing), covers == {cell: 1 for cell in floor})

    def test_what_is_no_length(self):
        for length in no_lengths():
            for thing in ((), None, OF_ENDS):
                self.refuses(NoLength, is_signed, ENDS, length, thing)


class SignedFor(Asking):
    def look(self, floor, length):
        """Either there is a signed filling, or weights show that there is none; each is looked at by hand too."""
        told = signed_for(floor, length)
        weights = weights_for(floor, length)
        self.assertNotEqual(told is None, weights is None)
        self.assertEqual(told is None, sums_of(floor, length) is None)
        self.assertEqual(signed_for(floor, length), told)
        if told is None:
            self.assertNotEqual(weight_of(floor, length, weights), 0)
            self.assertEqual(many_fillings(floor, length), 0)
            return
        self.assertIs(is_signed(floor, length, told), True)
        self.assertEqual(covers_by_hand(told, length), {cell: 1 for cell in floor})
        self.assertEqual(list(told), sorted(told))
        self.assertEqual(len({bar for bar, times in told}), len(told))
        self.assertNotIn(0, [times for bar, times in told])

    def test_ordinary(self):
        self.assertIsNotNone(signed_for(ENDS, 2))
        self.look(ENDS, 2)
        self.assertIsNone(signed_for(((0, 0), (0, 2)), 2))
        self.look(((0, 0), (0, 2)), 2)
        self.assertIsNone(signed_for(box_floor(6, 6), 4))
        self.assertIsNotNone(signed_for(box_floor(6, 6), 3))

    def test_floor_without_cells_and_of_one_cell(self):
        for length in LENGTHS:
            self.look((), length)
            self.assertIsNotNone(signed_for((), length))
            for cell in itertools.product(range(8), range(8)):
                self.assertIsNone(signed_for((cell,), length))
                self.look((cell,), length)

    def test_floors_that_bars_fill_have_one(self):
        for floor in some_floors():
            for length in LENGTHS:
                if many_fillings(floor, length):
                    self.assertIsNotNone(signed_for(floor, length))

    def test_each_floor(self):
        for floor in some_floors():
            for length in LENGTHS:
                self.look(floor, length)

    def test_all_small_floors(self):
        for floor in subsets_of_box(3, 3):
            for length in LENGTHS:
                self.look(floor, length)
        for floor in subsets_of_box(2, 6):
            for length in (2, 5):
                self.look(floor, length)

    def test_bars_scattered_over_the_board(self):
        # Cells moved by multiples of the length, each on its own, stay sums: so these have one without being filled.
        chance = random.Random(11)
        for length in LENGTHS:
            for many in range(1, 40 // length + 1):
                cells = set()
                for _ in range(many):
                    row = chance.randrange(8)
                    moved = {((row + length * chance.randrange(4)) % 8, k) for k in range(length)}
                    if all((r - row) % length == 0 for r, k in moved) and not moved & cells:
                        cells |= moved
                floor = tuple(sorted(cells))
                self.look(floor, length)
                self.assertIsNotNone(signed_for(floor, length))

    def test_what_is_no_length(self):
        for length in no_lengths():
            for floor in ((), ENDS, box_floor(5, 8)):
                self.refuses(NoLength, signed_for, floor, length)


if __name__ == "__main__":
    unittest.main()
