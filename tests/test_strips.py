import itertools
import unittest

from barfloors.errors import NoLength, NoNumber
from barfloors.fillings import many_fillings
from barfloors.floors import box_floor
from barfloors.strips import strip_counts, strip_many
from tests.things import FORTY_FIGURES, LENGTHS, Asking, no_lengths, odd_things, strips_by_cells

WIDTHS = (1, 2, 3, 4)
NO_WIDTHS = [0, 5, -1, 6, 40, 200, (), (1,), [1], "1", {1: 1}]
NO_COLUMNS = [-1, 201, -2, 202, 1000, 10 ** 9, (), (1,), [1], "1", {1: 1}]


class Counts(Asking):
    def test_known_numbers(self):
        known = {
            (1, 2): [1, 0, 1, 0, 1, 0], (1, 5): [1, 0, 0, 0, 0, 1, 0], (2, 2): [1, 1, 2, 3, 5, 8, 13, 21, 34],
            (2, 3): [1, 0, 0, 1, 0, 0, 1], (3, 2): [1, 0, 3, 0, 11, 0, 41, 0, 153, 0, 571],
            (3, 3): [1, 1, 1, 2, 3, 4, 6, 9, 13, 19, 28], (4, 2): [1, 1, 5, 11, 36, 95, 281, 781, 2245, 6336, 18061],
            (4, 3): [1, 0, 0, 3, 0, 0, 13, 0, 0, 57, 0, 0, 249], (4, 4): [1, 1, 1, 1, 2, 3, 4, 5, 7, 10, 14, 19, 26],
            (4, 5): [1, 0, 0, 0, 0, 1, 0, 0, 0, 0, 1],
        }
        for (width, length), counts in known.items():
            self.assertEqual(strip_counts(width, length, len(counts) - 1), counts)

    def test_no_columns_and_one(self):
        for width, length in itertools.product(WIDTHS, LENGTHS):
            one = 1 if width % length == 0 else 0
            self.assertEqual(strip_counts(width, length, 0), [1])
            self.assertEqual(strip_many(width, length, 0), 1)
            self.assertEqual(strip_counts(width, length, 1), [1, one])
            self.assertEqual(strip_many(width, length, 1), one)

    def test_as_many_as_floors_of_boxes_have(self):
        for width, length, columns in itertools.product(WIDTHS, LENGTHS, range(1, 9)):
            self.assertEqual(strip_many(width, length, columns), many_fillings(box_floor(width, columns), length))

    def test_strips_by_cells(self):
        for width, length in itertools.product(WIDTHS, LENGTHS):
            for columns in (9, 10, 11, 12, 24, 25):
                self.assertEqual(strip_many(width, length, columns), strips_by_cells(width, length, columns))

    def test_two_hundred_columns(self):
        for width, length in itertools.product(WIDTHS, LENGTHS):
            for columns in (199, 200):
                self.assertEqual(strip_many(width, length, columns), strips_by_cells(width, length, columns))
        self.assertEqual(strip_many(1, 2, 200), 1)
        self.assertEqual(strip_many(1, 3, 200), 0)
        one, other = 1, 1
        for _ in range(199):
            one, other = other, one + other
        self.assertEqual(strip_many(2, 2, 200), other)

    def test_all_numbers_up_to_one(self):
        for width, length in itertools.product(WIDTHS, LENGTHS):
            told = strip_counts(width, length, 200)
            self.assertIsInstance(told, list)
            self.assertEqual(len(told), 201)
            for columns in (0, 1, 2, 7, 60, 199, 200):
                self.assertEqual(strip_counts(width, length, columns), told[:columns + 1])
                self.assertEqual(strip_many(width, length, columns), told[columns])

    def test_the_list_is_new(self):
        told = strip_counts(2, 2, 3)
        told[0] = 7
        told.append(7)
        self.assertEqual(strip_counts(2, 2, 3), [1, 1, 2, 3])


class Refusals(Asking):
    def both(self, error, *things):
        self.refuses(error, strip_many, *things)
        self.refuses(error, strip_counts, *things)

    def test_what_is_no_width(self):
        for width in NO_WIDTHS + odd_things():
            self.both(NoNumber, width, 2, 3)

    def test_what_is_no_length(self):
        for length in no_lengths():
            self.both(NoLength, 2, length, 3)

    def test_what_is_no_number_of_columns(self):
        for columns in NO_COLUMNS + odd_things():
            self.both(NoNumber, 2, 2, columns)
            self.both(NoNumber, 1, 5, columns)

    def test_the_order_of_refusals(self):
        for width in (0, 5, None, True, FORTY_FIGURES):
            self.both(NoNumber, width, 6, 3)
            self.both(NoNumber, width, None, None)
        for length in (1, 6, None, True, FORTY_FIGURES):
            self.both(NoLength, 4, length, 201)
            self.both(NoLength, 4, length, None)
            self.both(NoLength, 4, length, -1)


if __name__ == "__main__":
    unittest.main()
