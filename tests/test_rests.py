import unittest

from barfloors.errors import NoLength
from barfloors.floors import box_floor
from barfloors.rests import first_apart, hues, rests, sums_of
from tests.things import LENGTHS, Asking, drawn, fillings_by_trying, no_lengths, some_floors, subsets_of_box


def table_by_counting(floor, length):
    return [[sum(1 for row, column in floor if (row % length, column % length) == (above, left))
             for left in range(length)] for above in range(length)]


class Hues(Asking):
    def test_small_floors(self):
        self.assertEqual(hues(drawn("##"), 2), [1, 1])
        self.assertEqual(hues(drawn("#.#"), 2), [2, 0])
        self.assertEqual(hues(drawn("###", "###"), 3), [2, 2, 2])
        self.assertEqual(hues(drawn("###", "###", "###"), 2), [5, 4])
        self.assertEqual(hues(((7, 7),), 5), [0, 0, 0, 0, 1])
        self.assertEqual(hues(((0, 3), (1, 2), (3, 0)), 4), [0, 0, 0, 3])

    def test_a_board_without_two_corners(self):
        floor = tuple(cell for cell in box_floor(6, 6) if cell not in ((0, 0), (5, 5)))
        self.assertEqual(hues(floor, 2), [16, 18])

    def test_none_and_one_cell(self):
        for length in LENGTHS:
            self.assertEqual(hues((), length), [0] * length)
            for cell in box_floor(5, 8):
                self.assertEqual(hues((cell,), length), [1 if sum(cell) % length == h else 0 for h in range(length)])

    def test_each_floor_by_counting(self):
        for floor in some_floors():
            for length in LENGTHS:
                told = hues(floor, length)
                self.assertIsInstance(told, list)
                self.assertEqual(told, [sum(1 for cell in floor if sum(cell) % length == h) for h in range(length)])
                self.assertEqual(sum(told), len(floor))

    def test_a_floor_that_can_be_filled_has_as_many_of_each(self):
        for floor in subsets_of_box(3, 4):
            for length in (2, 3):
                if fillings_by_trying(floor, length):
                    self.assertEqual(hues(floor, length), [len(floor) // length] * length)

    def test_what_is_no_length(self):
        for length in no_lengths():
            for floor in ((), ((0, 0),), box_floor(5, 8)):
                self.refuses(NoLength, hues, floor, length)

    def test_the_list_is_new(self):
        floor = box_floor(3, 3)
        told = hues(floor, 3)
        told[0] = 99
        told.append(7)
        self.assertEqual(hues(floor, 3), [3, 3, 3])


class Rests(Asking):
    def test_small_floors(self):
        self.assertEqual(rests(drawn("##"), 2), [[1, 1], [0, 0]])
        self.assertEqual(rests(drawn("#", "#", "#"), 2), [[2, 0], [1, 0]])
        self.assertEqual(rests(((7, 3),), 5), [[0] * 5, [0] * 5, [0, 0, 0, 1, 0], [0] * 5, [0] * 5])
        self.assertEqual(rests(box_floor(4, 5), 3), [[4, 4, 2], [2, 2, 1], [2, 2, 1]])

    def test_rows_stand_ahead_of_columns(self):
        self.assertEqual(rests(((0, 1),), 2), [[0, 1], [0, 0]])
        self.assertEqual(rests(((1, 0),), 2), [[0, 0], [1, 0]])

    def test_none(self):
        for length in LENGTHS:
            self.assertEqual(rests((), length), [[0] * length] * length)

    def test_each_floor_by_counting(self):
        for floor in some_floors():
            for length in LENGTHS:
                told = rests(floor, length)
                self.assertEqual(told, table_by_counting(floor, length))
                self.assertTrue(all(isinstance(line, list) for line in told))

    def test_what_is_no_length(self):
        for length in no_lengths():
            for floor in ((), ((0, 0),), box_floor(5, 8)):
                self.refuses(NoLength, rests, floor, length)

    def test_the_lists_are_new(self):
        told = rests((), 2)
        told[0][0] = 5
        self.assertEqual(told, [[5, 0], [0, 0]])
        self.assertEqual(rests((), 2), [[0, 0], [0, 0]])


class SumsAndApart(Asking):
    def test_sums(self):
        self.assertEqual(sums_of(drawn("##"), 2), ([1, 0], [0, 0]))
        self.assertEqual(sums_of(drawn("#", "#"), 2), ([1, 1], [0, -1]))
        self.assertEqual(sums_of(box_floor(4, 5), 5), ([1, 1, 1, 1, 0], [0] * 5))
        self.assertEqual(sums_of(box_floor(5, 4), 5), ([1] * 5, [0, 0, 0, 0, -1]))
        self.assertEqual(sums_of(drawn("#.....#", "#.....#"), 2), ([2, 2], [0, -2]))

    def test_apart(self):
        self.assertEqual(first_apart(((0, 0),), 2), (1, 1))
        self.assertEqual(first_apart(((2, 1),), 3), (2, 1))
        self.assertEqual(first_apart(((2, 0),), 3), (2, 1))
        self.assertEqual(first_apart(((0, 2),), 3), (1, 2))
        self.assertEqual(first_apart(((4, 4),), 5), (4, 4))
        self.assertEqual(first_apart(((1, 2), (2, 1)), 3), (1, 2))
        self.assertIsNone(first_apart(box_floor(3, 6), 3))

    def test_the_first_apart_goes_by_rows(self):
        self.assertEqual(first_apart(((1, 3), (2, 1)), 4), (1, 3))
        self.assertEqual(first_apart(((3, 1), (1, 2)), 4), (1, 2))

    def test_none(self):
        for length in LENGTHS:
            self.assertEqual(sums_of((), length), ([0] * length, [0] * length))
            self.assertIsNone(first_apart((), length))

    def test_one_cell_is_never_sums(self):
        for length in LENGTHS:
            for cell in box_floor(5, 8):
                self.assertIsNone(sums_of((cell,), length))
                self.assertIsNotNone(first_apart((cell,), length))

    def look(self, floor, length):
        table = table_by_counting(floor, length)
        apart = [(i, j) for i in range(length) for j in range(length)
                 if table[i][j] - table[i][0] - table[0][j] + table[0][0] != 0]
        told = sums_of(floor, length)
        first = first_apart(floor, length)
        self.assertEqual(first, apart[0] if apart else None)
        self.assertEqual(told is None, first is not None)
        if told is not None:
            self.assertIsInstance(told, tuple)
            rows, columns = told
            self.assertIsInstance(rows, list)
            self.assertIsInstance(columns, list)
            self.assertEqual(columns[0], 0)
            self.assertEqual([[one + other for other in columns] for one in rows], table)
        else:
            self.assertIsInstance(first, tuple)

    def test_each_floor(self):
        for floor in some_floors():
            for length in LENGTHS:
                self.look(floor, length)

    def test_all_small_floors(self):
        for floor in subsets_of_box(3, 4):
            for length in (2, 3):
                self.look(floor, length)

    def test_rests_of_a_floor_that_can_be_filled_are_sums(self):
        for floor in subsets_of_box(3, 4):
            for length in LENGTHS:
                if len(floor) % length == 0 and fillings_by_trying(floor, length):
                    self.assertIsNotNone(sums_of(floor, length))
                    self.assertIsNone(first_apart(floor, length))

    def test_sums_of_a_floor_that_no_bars_fill(self):
        floor = drawn("#.#", "...", "#.#")
        self.assertEqual(sums_of(drawn("#..#"), 2), ([1, 0], [0, 0]))
        self.assertEqual(fillings_by_trying(drawn("#..#"), 2), [])
        self.assertIsNone(sums_of(floor, 2))

    def test_what_is_no_length(self):
        for length in no_lengths():
            for floor in ((), ((0, 0),), box_floor(5, 8)):
                self.refuses(NoLength, sums_of, floor, length)
                self.refuses(NoLength, first_apart, floor, length)

    def test_the_lists_are_new(self):
        for floor in ((), box_floor(2, 2)):
            before = sums_of(floor, 2)
            told = sums_of(floor, 2)
            told[0].append(3)
            told[1][0] = 9
            self.assertEqual(sums_of(floor, 2), before)


if __name__ == "__main__":
    unittest.main()
