import unittest

from barfloors.bars import bars_of, cells_of, is_bar, is_within
from barfloors.errors import NoBars, NoLength
from barfloors.floors import box_floor
from tests.things import FORTY_FIGURES, bars_by_trying, drawn, no_lengths, odd_things, subsets_of_box


class IsBar(unittest.TestCase):
    def yes(self, thing):
        self.assertIs(is_bar(thing), True, thing)

    def no(self, thing):
        self.assertIs(is_bar(thing), False, thing)

    def test_all_rows_columns_and_ways(self):
        for number in range(-40, 41):
            for way in (0, 1):
                self.yes((number, 0, way))
                self.yes((0, number, way))
                self.yes((number, -number, way))

    def test_both_ends(self):
        for row in (-40, 40):
            for column in (-40, 40):
                self.yes((row, column, 0))
                self.yes((row, column, 1))

    def test_just_beyond(self):
        for wrong in (-41, 41, -42, 42, FORTY_FIGURES, -FORTY_FIGURES):
            self.no((wrong, 0, 0))
            self.no((0, wrong, 0))
            self.no((wrong, 0, 1))
            self.no((0, wrong, 1))

    def test_other_ways(self):
        for way in (-1, 2, 3, 40, -40, FORTY_FIGURES, None, "a", "d", "0", (0,), [0], {}):
            self.no((0, 0, way))

    def test_truths_in_the_place_of_numbers(self):
        for truth in (True, False):
            self.no((truth, 0, 0))
            self.no((0, truth, 0))
            self.no((0, 0, truth))
            self.no((truth, truth, truth))

    def test_a_number_more_or_fewer(self):
        for thing in ((), (0,), (0, 0), (0, 0, 0, 0)):
            self.no(thing)

    def test_lists_in_the_place_of_tuples(self):
        self.no([0, 0, 0])
        self.no([1, 2, 1])

    def test_bars_within_others(self):
        self.no(((0, 0, 0),))
        self.no(((0, 0, 0), (0, 0, 1), (0, 1, 0)))
        self.no(((0, 0), 0))

    def test_things_of_every_other_kind(self):
        for thing in odd_things() + [0, 1, 2, "000", "00a"]:
            self.no(thing)

    def test_what_is_asked_of_stays_as_it_was(self):
        things = odd_things()
        for thing in things:
            is_bar(thing)
        self.assertEqual(repr(things), repr(odd_things()))


class CellsOf(unittest.TestCase):
    def test_across(self):
        self.assertEqual(cells_of((2, 3, 0), 2), ((2, 3), (2, 4)))
        self.assertEqual(cells_of((2, 3, 0), 3), ((2, 3), (2, 4), (2, 5)))
        self.assertEqual(cells_of((2, 3, 0), 4), ((2, 3), (2, 4), (2, 5), (2, 6)))
        self.assertEqual(cells_of((2, 3, 0), 5), ((2, 3), (2, 4), (2, 5), (2, 6), (2, 7)))

    def test_down(self):
        self.assertEqual(cells_of((2, 3, 1), 2), ((2, 3), (3, 3)))
        self.assertEqual(cells_of((2, 3, 1), 3), ((2, 3), (3, 3), (4, 3)))
        self.assertEqual(cells_of((2, 3, 1), 4), ((2, 3), (3, 3), (4, 3), (5, 3)))
        self.assertEqual(cells_of((2, 3, 1), 5), ((2, 3), (3, 3), (4, 3), (5, 3), (6, 3)))

    def test_below_nought(self):
        self.assertEqual(cells_of((-1, -2, 0), 3), ((-1, -2), (-1, -1), (-1, 0)))
        self.assertEqual(cells_of((-1, -2, 1), 3), ((-1, -2), (0, -2), (1, -2)))

    def test_at_both_ends(self):
        self.assertEqual(cells_of((-40, -40, 0), 2), ((-40, -40), (-40, -39)))
        self.assertEqual(cells_of((-40, -40, 1), 2), ((-40, -40), (-39, -40)))
        self.assertEqual(cells_of((40, 40, 0), 5), ((40, 40), (40, 41), (40, 42), (40, 43), (40, 44)))
        self.assertEqual(cells_of((40, 40, 1), 5), ((40, 40), (41, 40), (42, 40), (43, 40), (44, 40)))

    def test_a_rising_tuple_of_as_many_as_the_length(self):
        for length in (2, 3, 4, 5):
            for row in range(-8, 9):
                for column in range(-8, 9):
                    for way in (0, 1):
                        cells = cells_of((row, column, way), length)
                        self.assertIsInstance(cells, tuple)
                        self.assertEqual(len(cells), length)
                        self.assertEqual(cells, tuple(sorted(set(cells))))
                        self.assertEqual(cells[0], (row, column))

    def test_what_is_no_bar(self):
        wrong_bars = odd_things() + [(0, 0), (0, 0, 2), (0, 0, -1), (41, 0, 0), (0, -41, 1), (0, True, 0), [0, 0, 0]]
        for bar in wrong_bars:
            for length in (2, 3, 4, 5):
                with self.assertRaises(NoBars):
                    cells_of(bar, length)

    def test_what_is_no_length(self):
        for length in no_lengths():
            for bar in ((0, 0, 0), (-40, 40, 1)):
                with self.assertRaises(NoLength):
                    cells_of(bar, length)

    def test_the_bar_is_looked_at_ahead_of_the_length(self):
        for bar in (None, (0, 0, 2), (41, 0, 0), [0, 0, 0]):
            for length in no_lengths():
                with self.assertRaises(NoBars):
                    cells_of(bar, length)


class BarsOf(unittest.TestCase):
    def test_a_small_box(self):
        self.assertEqual(bars_of(box_floor(2, 2), 2), [(0, 0, 0), (0, 0, 1), (0, 1, 1), (1, 0, 0)])
        self.assertEqual(bars_of(box_floor(2, 3), 3), [(0, 0, 0), (1, 0, 0)])
        self.assertEqual(bars_of(box_floor(3, 2), 3), [(0, 0, 1), (0, 1, 1)])

    def test_both_ways_at_one_cell(self):
        for length in (2, 3, 4, 5):
            corner = tuple(sorted({(2, 2 + step) for step in range(length)} | {(2 + step, 2) for step in range(length)}))
            self.assertIn((2, 2, 0), bars_of(corner, length))
            self.assertIn((2, 2, 1), bars_of(corner, length))
            self.assertEqual(len(bars_of(corner, length)), 2)

    def test_each_length_in_a_row_and_in_a_column(self):
        for length in (2, 3, 4, 5):
            self.assertEqual(bars_of(box_floor(1, 8), length), [(0, k, 0) for k in range(9 - length)])
            self.assertEqual(bars_of(box_floor(8, 1), length), [(k, 0, 1) for k in range(9 - length)])

    def test_how_many_a_box_has(self):
        for high in range(1, 9):
            for wide in range(1, 40 // high + 1):
                for length in (2, 3, 4, 5):
                    if wide <= 8:
                        many = high * max(0, wide - length + 1) + wide * max(0, high - length + 1)
                        self.assertEqual(len(bars_of(box_floor(high, wide), length)), many)

    def test_floors_without_any(self):
        for length in (2, 3, 4, 5):
            self.assertEqual(bars_of((), length), [])
            self.assertEqual(bars_of(((0, 0),), length), [])
            self.assertEqual(bars_of(((0, 0), (1, 1), (2, 2)), length), [])
            self.assertEqual(bars_of(((0, 7), (1, 0)), length), [])
            self.assertEqual(bars_of(box_floor(length - 1, length - 1), length), [])

    def test_a_gap_lets_no_bar_over_it(self):
        self.assertEqual(bars_of(drawn("##.##"), 3), [])
        self.assertEqual(bars_of(drawn("##.##"), 2), [(0, 0, 0), (0, 3, 0)])
        self.assertEqual(bars_of(drawn("###", "#.#", "###"), 3), [(0, 0, 0), (0, 0, 1), (0, 2, 1), (2, 0, 0)])

    def test_all_small_floors(self):
        for floor in subsets_of_box(3, 3):
            for length in (2, 3, 4):
                self.assertEqual(bars_of(floor, length), bars_by_trying(floor, length))

    def test_larger_floors(self):
        floors = [box_floor(5, 8), box_floor(8, 5), drawn("########", "#..##..#", "########", "##.##.##", "####")]
        for floor in floors:
            for length in (2, 3, 4, 5):
                told = bars_of(floor, length)
                self.assertIsInstance(told, list)
                self.assertEqual(told, bars_by_trying(floor, length))
                self.assertEqual(told, sorted(set(told)))
                self.assertTrue(all(is_bar(bar) for bar in told))

    def test_the_last_row_and_column(self):
        floor = ((6, 7), (7, 6), (7, 7))
        self.assertEqual(bars_of(floor, 2), [(6, 7, 1), (7, 6, 0)])

    def test_what_is_no_length(self):
        for length in no_lengths():
            for floor in ((), ((0, 0),), box_floor(5, 8)):
                with self.assertRaises(NoLength):
                    bars_of(floor, length)

    def test_the_list_is_new_each_time(self):
        floor = box_floor(2, 2)
        kept = bars_of(floor, 2)
        told = bars_of(floor, 2)
        self.assertIsNot(told, kept)
        told.append((9, 9, 9))
        told[0] = None
        self.assertEqual(bars_of(floor, 2), kept)
        self.assertEqual(floor, ((0, 0), (0, 1), (1, 0), (1, 1)))
        none = bars_of((), 2)
        none.append(1)
        self.assertEqual(bars_of((), 2), [])


class Within(unittest.TestCase):
    def test_a_bar_within_covers_cells_of_the_floor_alone(self):
        floor = drawn("###", "#")
        self.assertIs(is_within(floor, (0, 0, 0), 3), True)
        self.assertIs(is_within(floor, (0, 0, 1), 2), True)
        self.assertIs(is_within(floor, (0, 0, 1), 3), False)
        self.assertIs(is_within(floor, (0, -1, 0), 3), False)
        self.assertIs(is_within(floor, (0, 1, 0), 3), False)
        self.assertIs(is_within((), (0, 0, 0), 2), False)


if __name__ == "__main__":
    unittest.main()
