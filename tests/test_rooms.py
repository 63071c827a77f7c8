import functools
import itertools
import math
import unittest

from barfloors.errors import NoBox, NoLength, TooMany
from barfloors.fillings import many_fillings
from barfloors.floors import box_floor
from barfloors.rooms import is_room_filling, many_room_fillings, room_filling, room_hues
from tests.things import FORTY_FIGURES, LENGTHS, Asking, no_lengths, odd_things

MILLIARD = 10 ** 9
CUBE = (2, 2, 2)
CUBE_FILLING = ((0, 0, 0, 0), (0, 0, 1, 0), (0, 1, 0, 2), (1, 1, 0, 2))
NO_ROOMS = [
    (), (2,), (2, 2), (2, 2, 2, 2), [2, 2, 2], "222", {2: 2}, 2, (0, 2, 2), (2, 0, 2), (2, 2, 0), (-1, 2, 2),
    (2, 2, -2), (MILLIARD + 1, 1, 1), (1, MILLIARD + 1, 1), (1, 1, MILLIARD + 1), (True, 2, 2), (2, 2, True),
    (2, None, 2), (2, "2", 2), (2, 2, (2,)), ([2], 2, 2), (FORTY_FIGURES, 1, 1), (1, 1, -FORTY_FIGURES), ((2, 2, 2),),
]


def cells_of_bar(bar, length):
    *start, way = bar
    return [tuple(number + step * (axis == way) for axis, number in enumerate(start)) for step in range(length)]


def cells_of(room):
    return list(itertools.product(*[range(side) for side in room]))


def bars_by_trying(room, length):
    cells = set(cells_of(room))
    return [(*cell, way) for cell in sorted(cells) for way in range(3)
            if cells.issuperset(cells_of_bar((*cell, way), length))]


@functools.cache
def fillings_by_trying(room, length):
    """All fillings of a small room, found by leaving or taking each bar, in rising order."""
    packings = [((), frozenset())]
    for bar in bars_by_trying(room, length):
        cells = frozenset(cells_of_bar(bar, length))
        packings += [(bars + (bar,), covered | cells) for bars, covered in packings if not covered & cells]
    return sorted(bars for bars, covered in packings if len(covered) == math.prod(room))


def count_by_sets(room, length):
    """How many fillings a room has, counted from the last open cell backwards, by sets of open cells."""
    covers = [frozenset(cells_of_bar(bar, length)) for bar in bars_by_trying(room, length)]

    @functools.cache
    def many(open_cells):
        if not open_cells:
            return 1
        last = max(open_cells)
        return sum(many(open_cells - cells) for cells in covers if last in cells and cells <= open_cells)

    return many(frozenset(cells_of(room)))


def small_rooms(most):
    return [room for room in itertools.product(range(1, most + 1), repeat=3) if math.prod(room) <= most]


class IsRoomFilling(Asking):
    def yes(self, room, length, thing):
        self.assertIs(is_room_filling(room, length, thing), True, thing)

    def no(self, room, length, thing):
        self.assertIs(is_room_filling(room, length, thing), False, thing)

    def test_ordinary(self):
        self.yes(CUBE, 2, CUBE_FILLING)
        self.yes((1, 2, 1), 2, ((0, 0, 0, 1),))
        self.yes((1, 1, 5), 5, ((0, 0, 0, 2),))
        self.yes((5, 1, 1), 5, ((0, 0, 0, 0),))
        self.yes((3, 1, 2), 3, ((0, 0, 0, 0), (0, 0, 1, 0)))

    def test_one_cell(self):
        for length in LENGTHS:
            for thing in ((), ((0, 0, 0, 0),), None, ((0, 0, 0),)):
                self.no((1, 1, 1), length, thing)

    def test_a_cell_in_none_or_in_two_or_outside(self):
        self.no(CUBE, 2, ())
        self.no(CUBE, 2, CUBE_FILLING[:-1])
        self.no(CUBE, 2, CUBE_FILLING[1:])
        self.no(CUBE, 2, CUBE_FILLING + ((1, 1, 1, 0),))
        self.no(CUBE, 2, CUBE_FILLING + ((2, 0, 0, 1),))
        self.no(CUBE, 2, ((0, 0, 0, 0), (0, 0, 0, 1), (0, 0, 1, 0), (1, 1, 0, 2)))
        self.no(CUBE, 2, ((-1, 0, 0, 0),) + CUBE_FILLING)
        # As many cells as there are to be, but one outside.
        self.no((1, 1, 2), 2, ((0, 0, 1, 2),))
        self.no((1, 1, 2), 2, ((0, 0, -1, 2),))
        self.no((1, 1, 2), 2, ((0, 0, 0, 1),))
        self.no((1, 1, 2), 2, ((0, 0, 0, 0),))
        # As many cells as there are to be, one of them twice.
        self.no((1, 1, 4), 2, ((0, 0, 0, 2), (0, 0, 1, 2)))

    def test_bars_that_do_not_rise(self):
        self.no(CUBE, 2, CUBE_FILLING[::-1])
        self.no(CUBE, 2, (CUBE_FILLING[1], CUBE_FILLING[0]) + CUBE_FILLING[2:])
        self.no((1, 1, 2), 2, ((0, 0, 0, 2), (0, 0, 0, 2)))

    def test_lists_truths_and_other_parts(self):
        self.no(CUBE, 2, list(CUBE_FILLING))
        self.no(CUBE, 2, tuple(list(bar) for bar in CUBE_FILLING))
        self.no(CUBE, 2, {bar: True for bar in CUBE_FILLING})
        for at, bar in enumerate(CUBE_FILLING):
            for wrong in (bar[:3], bar + (0,), list(bar), None, "0000", (bar,), (*bar[:3], 3), (*bar[:3], -1),
                          (*bar[:3], None), (None, *bar[1:]), ("0", *bar[1:]), (*bar[:3], str(bar[3]))):
                self.no(CUBE, 2, CUBE_FILLING[:at] + (wrong,) + CUBE_FILLING[at + 1:])
            truths = tuple(bool(number) for number in bar[:3]) + bar[3:]
            self.no(CUBE, 2, CUBE_FILLING[:at] + (truths,) + CUBE_FILLING[at + 1:])
            for far in (FORTY_FIGURES, -FORTY_FIGURES, 2, -1, 1000):
                self.no(CUBE, 2, tuple(sorted(CUBE_FILLING[:at] + ((far, *bar[1:]),) + CUBE_FILLING[at + 1:])))
                self.no(CUBE, 2, tuple(sorted(CUBE_FILLING[:at] + ((*bar[:2], far, bar[3]),) + CUBE_FILLING[at + 1:])))
        self.no((1, 2, 1), 2, ((0, 0, 0, True),))
        self.no((2, 1, 1), 2, ((0, 0, 0, False),))

    def test_things_of_every_other_kind(self):
        things = odd_things()
        for room in ((1, 1, 1), CUBE, (10, 10, 10)):
            for thing in things:
                self.no(room, 2, thing)
        self.assertEqual(repr(things), repr(odd_things()))

    def test_just_the_fillings_of_small_rooms(self):
        for room in ((1, 2, 2), (2, 2, 2), (1, 2, 3), (3, 1, 2), (2, 3, 1)):
            bars = bars_by_trying(room, 2)
            fillings = set(fillings_by_trying(room, 2))
            for many in range(math.prod(room) // 2 + 2):
                for thing in itertools.combinations(bars, many):
                    self.assertIs(is_room_filling(room, 2, thing), thing in fillings)

    def test_another_length(self):
        self.no((1, 1, 4), 4, ((0, 0, 0, 2), (0, 0, 2, 2)))
        self.yes((1, 1, 4), 4, ((0, 0, 0, 2),))
        self.no((1, 1, 4), 2, ((0, 0, 0, 2),))

    def test_a_thousand_cells(self):
        for room in ((10, 10, 10), (1, 1, 1000), (1000, 1, 1), (2, 5, 100), (4, 250, 1)):
            for length in (2, 5):
                filling = room_filling(room, length)
                self.yes(room, length, filling)
                self.no(room, length, filling[:-1])
                self.no(room, length, filling[:-1] + filling[:1])


class Told(Asking):
    def test_small_rooms(self):
        self.assertEqual(room_filling((1, 1, 2), 2), ((0, 0, 0, 2),))
        self.assertIsNone(room_filling((1, 1, 1), 2))
        self.assertIsNone(room_filling((3, 3, 3), 2))
        self.assertIsNone(room_filling((6, 6, 6), 4))
        self.assertIsNone(room_filling((2, 2, 2), 4))

    def test_there_is_one_just_where_the_length_divides_a_side(self):
        rooms = small_rooms(12) + [(6, 6, 6), (10, 10, 10), (9, 10, 11), (7, 7, 7), (8, 5, 25), (1, 1, 1000),
                                   (1, 1, 999), (13, 7, 10), (3, 3, 111), (31, 31, 1), (2, 499, 1), (6, 6, 27)]
        for room, length in itertools.product(rooms, LENGTHS):
            told = room_filling(room, length)
            if any(side % length == 0 for side in room):
                self.assertIsInstance(told, tuple)
                self.assertEqual(list(told), sorted(set(told)))
                covered = sorted(cell for bar in told for cell in cells_of_bar(bar, length))
                self.assertEqual(covered, cells_of(room))
                self.assertIs(is_room_filling(room, length, told), True)
            else:
                self.assertIsNone(told)

    def test_by_trying(self):
        for room in small_rooms(9):
            for length in LENGTHS:
                told = room_filling(room, length)
                if fillings_by_trying(room, length):
                    self.assertIn(told, fillings_by_trying(room, length))
                else:
                    self.assertIsNone(told)


class Counted(Asking):
    def test_known_numbers(self):
        known = {((2, 2, 2), 2): 9, ((2, 2, 3), 2): 32, ((2, 3, 4), 2): 1845, ((2, 2, 6), 2): 1681, ((1, 4, 6), 2): 281,
                 ((1, 1, 1), 2): 0, ((1, 1, 2), 2): 1, ((1, 1, 24), 5): 0, ((1, 1, 24), 2): 1, ((24, 1, 1), 4): 1,
                 ((2, 3, 4), 3): 9, ((2, 3, 4), 4): 1, ((2, 3, 4), 5): 0, ((1, 4, 5), 5): 1, ((2, 2, 5), 5): 1}
        for (room, length), many in known.items():
            self.assertEqual(many_room_fillings(room, length), many, (room, length))

    def test_small_rooms_by_trying(self):
        for room in small_rooms(9):
            for length in LENGTHS:
                self.assertEqual(many_room_fillings(room, length), len(fillings_by_trying(room, length)))

    def test_all_rooms_by_sets(self):
        for room in small_rooms(24):
            if list(room) == sorted(room):
                for length in LENGTHS:
                    many = count_by_sets(room, length)
                    for sides in set(itertools.permutations(room)):
                        self.assertEqual(many_room_fillings(sides, length), many)
                    self.assertEqual(many > 0, room_filling(room, length) is not None)

    def test_rooms_of_one_layer_are_floors(self):
        for high, wide, length in itertools.product(range(1, 9), range(1, 9), LENGTHS):
            if high * wide <= 24:
                many = many_fillings(box_floor(high, wide), length)
                for room in ((1, high, wide), (high, 1, wide), (high, wide, 1)):
                    self.assertEqual(many_room_fillings(room, length), many)


class Hues(Asking):
    def test_known_numbers(self):
        self.assertEqual(room_hues((1, 1, 1), 2), [1, 0])
        self.assertEqual(room_hues((1, 1, 1), 5), [1, 0, 0, 0, 0])
        self.assertEqual(room_hues((3, 3, 3), 2), [14, 13])
        self.assertEqual(room_hues((2, 2, 2), 3), [2, 3, 3])
        self.assertEqual(room_hues((MILLIARD, MILLIARD, MILLIARD), 2), [10 ** 27 // 2, 10 ** 27 // 2])
        self.assertEqual(room_hues((MILLIARD - 1, 1, 1), 2), [MILLIARD // 2, MILLIARD // 2 - 1])

    def test_counted_one_by_one(self):
        rooms = small_rooms(16) + [(6, 6, 6), (7, 8, 9), (10, 10, 10), (5, 11, 23)]
        for room, length in itertools.product(rooms, LENGTHS):
            told = room_hues(room, length)
            self.assertIsInstance(told, list)
            self.assertEqual(told, [sum(1 for cell in cells_of(room) if sum(cell) % length == hue)
                                    for hue in range(length)])

    def test_all_alike_just_where_the_length_divides_a_side(self):
        sides = (1, 2, 3, 4, 5, 6, 12, 59, 60, 61, MILLIARD - 1, MILLIARD)
        for room in itertools.product(sides, repeat=3):
            for length in LENGTHS:
                told = room_hues(room, length)
                self.assertEqual(sum(told), math.prod(room))
                self.assertEqual(len(set(told)) == 1, any(side % length == 0 for side in room))

    def test_the_list_is_new(self):
        told = room_hues(CUBE, 2)
        told[0] = 77
        told.append(1)
        self.assertEqual(room_hues(CUBE, 2), [4, 4])


class Refusals(Asking):
    def each(self, error, room, length):
        self.refuses(error, room_filling, room, length)
        self.refuses(error, many_room_fillings, room, length)
        for thing in ((), CUBE_FILLING, None):
            self.refuses(error, is_room_filling, room, length, thing)

    def test_what_is_no_room(self):
        for room in NO_ROOMS + odd_things():
            self.each(NoBox, room, 2)
            self.refuses(NoBox, room_hues, room, 2)

    def test_what_is_no_length(self):
        for length in no_lengths():
            self.each(NoLength, CUBE, length)
            self.refuses(NoLength, room_hues, CUBE, length)

    def test_too_many_cells(self):
        rooms = ((7, 11, 13), (1001, 1, 1), (1, 1, 1001), (10, 10, 11), (MILLIARD, 1, 1),
                 (MILLIARD, MILLIARD, MILLIARD), (1, 2, 501))
        for room, length in itertools.product(rooms, (2, 5)):
            for error in (self.refuses(TooMany, room_filling, room, length),
                          self.refuses(TooMany, is_room_filling, room, length, None),
                          self.refuses(TooMany, is_room_filling, room, length, CUBE_FILLING)):
                self.assertEqual((error.many, error.most), (math.prod(room), 1000))
        for room in rooms + ((1, 5, 5), (25, 1, 1), (3, 3, 3), (1, 1, 25), (10, 10, 10)):
            error = self.refuses(TooMany, many_room_fillings, room, 2)
            self.assertEqual((error.many, error.most), (math.prod(room), 24))

    def test_the_order_of_refusals(self):
        for room in ((MILLIARD, MILLIARD, 0), None, [2, 2, 2], (1001, 1)):
            for length in (1, 6, None, True):
                self.each(NoBox, room, length)
                self.refuses(NoBox, room_hues, room, length)
        for length in (1, 6, None, True, FORTY_FIGURES):
            self.each(NoLength, (1001, 1, 1), length)
            self.each(NoLength, (MILLIARD, MILLIARD, MILLIARD), length)


if __name__ == "__main__":
    unittest.main()
