import unittest

from barfloors.errors import NoLength, NoNumber
from barfloors.kinds import are_wholes, is_length, is_rising, is_side, is_whole, need_length, need_number
from tests.things import FORTY_FIGURES, odd_things


class WholeNumbers(unittest.TestCase):
    def test_ints_are_whole_numbers(self):
        for number in (0, 1, -1, FORTY_FIGURES, -FORTY_FIGURES):
            self.assertIs(is_whole(number), True)

    def test_truths_and_other_kinds_are_none(self):
        for thing in (True, False, None, "1", [1], (1,), {1: 1}):
            self.assertIs(is_whole(thing), False)

    def test_need_number_takes_just_the_numbers_between(self):
        for number in range(-5, 15):
            if 1 <= number <= 8:
                self.assertIsNone(need_number(number, 1, 8))
            else:
                with self.assertRaises(NoNumber):
                    need_number(number, 1, 8)

    def test_need_number_refuses_other_kinds(self):
        for thing in odd_things():
            with self.assertRaises(NoNumber):
                need_number(thing, 0, 200)


class SeveralNumbers(unittest.TestCase):
    def test_so_many_whole_numbers(self):
        for many in range(6):
            self.assertIs(are_wholes((FORTY_FIGURES,) * many, 2, 4), 2 <= many <= 4)
        self.assertIs(are_wholes((), 0, 0), True)

    def test_lists_truths_and_other_parts(self):
        for thing in ([0, 0], "00", {0: 0, 1: 1}, None, 0, (0, True), (False, 0), (0, None), (0, "0"), ((0, 0),)):
            self.assertIs(are_wholes(thing, 1, 4), False)


class Lengths(unittest.TestCase):
    def test_lengths_are_two_to_five(self):
        self.assertEqual([number for number in range(-10, 20) if is_length(number)], [2, 3, 4, 5])

    def test_other_kinds_are_no_length(self):
        for thing in odd_things():
            self.assertIs(is_length(thing), False)
            with self.assertRaises(NoLength):
                need_length(thing)


class Sides(unittest.TestCase):
    def test_sides_are_one_to_a_thousand_millions(self):
        for number in (1, 2, 8, 40, 10 ** 9 - 1, 10 ** 9):
            self.assertIs(is_side(number), True)
        for number in (0, -1, 10 ** 9 + 1, FORTY_FIGURES, -FORTY_FIGURES):
            self.assertIs(is_side(number), False)

    def test_other_kinds_are_no_side(self):
        for thing in odd_things():
            self.assertIs(is_side(thing), False)


class Rising(unittest.TestCase):
    def test_none_and_one_rise(self):
        self.assertIs(is_rising([]), True)
        self.assertIs(is_rising((3,)), True)

    def test_each_is_greater_than_the_one_ahead(self):
        self.assertIs(is_rising([1, 2, 5]), True)
        self.assertIs(is_rising([1, 1]), False)
        self.assertIs(is_rising([2, 1]), False)
        self.assertIs(is_rising([1, 3, 2]), False)
        self.assertIs(is_rising(((0, 1), (0, 2), (1, 0))), True)


if __name__ == "__main__":
    unittest.main()
