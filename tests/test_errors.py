import inspect
import unittest

from barfloors import errors

WITH_TEXT = ["NoLength", "NoNumber", "NoBars", "NoBox", "NoWeights", "NoSorts", "NoTurn", "NoPlace", "NoText", "NoRow"]


class ErrorClasses(unittest.TestCase):
    def test_the_first_stands_straight_under_value_error(self):
        self.assertEqual(errors.BarError.__bases__, (ValueError,))

    def test_each_class_stands_straight_under_the_first(self):
        for name in WITH_TEXT + ["TooMany"]:
            with self.subTest(name=name):
                self.assertEqual(getattr(errors, name).__bases__, (errors.BarError,))

    def test_there_are_no_others_and_none_is_another_by_a_second_name(self):
        there = {name: thing for name, thing in vars(errors).items() if inspect.isclass(thing)}
        self.assertEqual(sorted(there), sorted(WITH_TEXT + ["TooMany", "BarError"]))
        self.assertEqual(len(set(there.values())), len(there))

    def test_none_is_taken_by_another_one(self):
        made = [getattr(errors, name)("words") for name in WITH_TEXT] + [errors.TooMany(41, 40)]
        for error in made:
            taken = [name for name in WITH_TEXT + ["TooMany"] if isinstance(error, getattr(errors, name))]
            self.assertEqual(taken, [error.__class__.__name__])
            self.assertIsInstance(error, errors.BarError)
            self.assertIsInstance(error, ValueError)

    def test_each_is_made_with_a_text(self):
        for name in WITH_TEXT:
            self.assertEqual(str(getattr(errors, name)("some words")), "some words")

    def test_too_many_has_its_two_fields(self):
        error = errors.TooMany(1234, 1000)
        self.assertEqual((error.many, error.most), (1234, 1000))


if __name__ == "__main__":
    unittest.main()
