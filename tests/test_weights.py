import copy
import itertools
import random
import unittest

from barfloors.bars import bars_of
from barfloors.errors import NoLength, NoWeights
from barfloors.fillings import many_fillings
from barfloors.floors import box_floor
from barfloors.rests import sums_of
from barfloors.weights import are_weights, weight_of, weights_for
from tests.things import (
    FORTY_FIGURES, LENGTHS, Asking, cells_by_hand, drawn, no_lengths, odd_things, some_floors, subsets_of_box)

CHESS = ((1, -1), (-1, 1))
NOUGHTS = {length: ((0,) * length,) * length for length in LENGTHS}
THREE = ((1, -1, 0), (-1, 0, 1), (0, 1, -1))


def some_weights(length):
    """Some weights of the length, of numbers that hang on a written seed."""
    chance = random.Random(length)
    told = [NOUGHTS[length]]
    for far in (3, 1000, 10 ** 39):
        lines = [[chance.randint(-far, far) // length for _ in range(length - 1)] for _ in range(length - 1)]
        lines = [line + [-sum(line)] for line in lines]
        lines.append([-sum(line[at] for line in lines) for at in range(length)])
        told.append(tuple(tuple(line) for line in lines))
    return told


class AreWeights(Asking):
    def yes(self, length, thing):
        self.assertIs(are_weights(length, thing), True, thing)

    def no(self, length, thing):
        self.assertIs(are_weights(length, thing), False, thing)

    def test_ordinary(self):
        self.yes(2, CHESS)
        self.yes(2, ((-5, 5), (5, -5)))
        self.yes(3, THREE)
        self.yes(3, ((1, 1, -2), (1, 1, -2), (-2, -2, 4)))
        self.yes(4, ((0, 0, 0, 0), (0, 1, 0, -1), (0, 0, 0, 0), (0, -1, 0, 1)))

    def test_noughts_and_others_of_each_length(self):
        for length in LENGTHS:
            for weights in some_weights(length):
                self.yes(length, weights)

    def test_numbers_of_forty_figures(self):
        self.yes(2, ((FORTY_FIGURES, -FORTY_FIGURES), (-FORTY_FIGURES, FORTY_FIGURES)))
        self.no(2, ((FORTY_FIGURES, -FORTY_FIGURES), (-FORTY_FIGURES, FORTY_FIGURES - 1)))
        self.no(2, ((FORTY_FIGURES, 1 - FORTY_FIGURES), (-FORTY_FIGURES, FORTY_FIGURES - 1)))

    def test_lines_that_do_not_come_to_nought(self):
        # Columns come to 0 here, rows don't.
        self.no(2, ((1, 1), (-1, -1)))
        self.no(2, ((1, 0), (-1, 0)))
        # Rows come to 0 here, columns don't.
        self.no(2, ((1, -1), (1, -1)))
        self.no(2, ((1, -1), (0, 0)))
        self.no(3, ((1, -1, 0), (-1, 1, 0), (0, 1, -1)))
        self.no(3, ((0, 0, 0), (0, 0, 0), (0, 0, 1)))

    def test_another_length(self):
        for one, other in itertools.permutations(LENGTHS, 2):
            self.no(one, NOUGHTS[other])
        self.no(3, CHESS)
        self.no(2, ((0, 0), (0, 0), (0, 0)))
        self.no(2, ((0, 0),))
        self.no(2, ((0, 0, 0), (0, 0, 0)))
        self.no(2, ((1, -1, 0), (-1, 1)))
        self.no(2, ((1, -1), (-1, 1, 0)))
        self.no(2, ((0,), (0,)))
        self.no(2, ((1, -1), ()))
        self.no(2, ())

    def test_lists_truths_and_other_parts(self):
        for thing in ([[1, -1], [-1, 1]], [(1, -1), (-1, 1)], ([1, -1], [-1, 1]), ((1, -1), [-1, 1]),
                      ((True, -1), (-1, 1)), ((False, False), (False, False)), ((0, 0), (0, False)), ((0, 0), None),
                      (None, None), ((0, None), (0, 0)), ((0, "0"), (0, 0)), ((0, 0), "00"), ("00", "00"), "0000",
                      ((0, 0), (0, (0,))), ((0, 0), (0, [])), ((0, 0), {0: 0, 1: 0}), {0: (0, 0), 1: (0, 0)},
                      (0, 0), 0, None, True, False, [], {}, (CHESS,), (CHESS, CHESS), ((0, 0), 0)):
            self.no(2, thing)

    def test_things_of_every_other_kind(self):
        things = odd_things()
        for length in LENGTHS:
            for thing in things:
                self.no(length, thing)
        self.assertEqual(repr(things), repr(odd_things()))

    def test_all_of_small_numbers(self):
        for a, b, c, d in itertools.product((-2, -1, 0, 1, 2), repeat=4):
            self.assertIs(are_weights(2, ((a, b), (c, d))), a + b == c + d == a + c == b + d == 0)
        for numbers in itertools.product((-1, 0, 1), repeat=9):
            table = (numbers[:3], numbers[3:6], numbers[6:])
            right = not any(sum(line) for line in table) and not any(sum(line) for line in zip(*table))
            self.assertIs(are_weights(3, table), right)

    def test_what_is_no_length(self):
        for length in no_lengths():
            for thing in (CHESS, None, ()):
                self.refuses(NoLength, are_weights, length, thing)


class WeightOf(Asking):
    def test_ordinary(self):
        self.assertEqual(weight_of(((0, 0),), 2, CHESS), 1)
        self.assertEqual(weight_of(((0, 1),), 2, CHESS), -1)
        self.assertEqual(weight_of(box_floor(3, 3), 2, CHESS), 1)
        self.assertEqual(weight_of(((1, 2), (4, 5)), 3, THREE), 2)
        self.assertEqual(weight_of(((2, 1),), 3, ((0, 0, 0), (1, -1, 0), (-1, 1, 0))), 1)
        self.assertEqual(weight_of(((1, 2),), 3, ((0, 0, 0), (1, -1, 0), (-1, 1, 0))), 0)

    def test_floor_without_cells(self):
        for length in LENGTHS:
            for weights in some_weights(length):
                self.assertEqual(weight_of((), length, weights), 0)

    def test_numbers_of_forty_figures(self):
        far = ((FORTY_FIGURES, -FORTY_FIGURES), (-FORTY_FIGURES, FORTY_FIGURES))
        self.assertEqual(weight_of(((0, 0), (0, 2), (1, 1)), 2, far), 3 * FORTY_FIGURES)
        self.assertEqual(weight_of(box_floor(5, 8), 2, far), 0)

    def test_each_floor_by_hand(self):
        for floor in some_floors():
            for length in LENGTHS:
                for weights in some_weights(length):
                    by_hand = 0
                    for row, column in floor:
                        by_hand += weights[row % length][column % length]
                    self.assertEqual(weight_of(floor, length, weights), by_hand)

    def test_each_bar_weighs_nothing(self):
        for length in LENGTHS:
            for weights in some_weights(length):
                for bar in bars_of(box_floor(5, 8), length):
                    self.assertEqual(weight_of(tuple(cells_by_hand(bar, length)), length, weights), 0)

    def test_a_floor_that_can_be_filled_weighs_nothing(self):
        for floor in some_floors():
            for length in LENGTHS:
                if many_fillings(floor, length):
                    for weights in some_weights(length):
                        self.assertEqual(weight_of(floor, length, weights), 0)

    def test_what_is_no_weights(self):
        for thing in [[[1, -1], [-1, 1]], ((1, -1), (1, -1)), ((1, 1), (-1, -1)), (), ((0, 0),), NOUGHTS[3],
                      ((True, -1), (-1, 1)), ([1, -1], [-1, 1])] + odd_things():
            for floor in ((), ((0, 0),), box_floor(5, 8)):
                self.refuses(NoWeights, weight_of, floor, 2, thing)

    def test_the_length_is_looked_at_first(self):
        for length in no_lengths():
            for thing in (CHESS, None, (), [[0, 0], [0, 0]]):
                self.refuses(NoLength, weight_of, ((0, 0),), length, thing)
                self.refuses(NoLength, weight_of, (), length, thing)

    def test_what_is_handed_in_stays_as_it_was(self):
        floor, weights = box_floor(3, 3), THREE
        before = copy.deepcopy((floor, weights))
        weight_of(floor, 3, weights)
        self.assertEqual((floor, weights), before)


class WeightsFor(Asking):
    def look(self, floor, length):
        told = weights_for(floor, length)
        self.assertEqual(told is None, sums_of(floor, length) is not None)
        if told is not None:
            self.assertIs(are_weights(length, told), True)
            self.assertNotEqual(weight_of(floor, length, told), 0)
        else:
            for weights in some_weights(length):
                self.assertEqual(weight_of(floor, length, weights), 0)
        self.assertEqual(weights_for(floor, length), told)

    def test_ordinary(self):
        self.assertIsNone(weights_for(box_floor(2, 2), 2))
        self.assertIsNone(weights_for(drawn("#..#"), 2))
        self.assertIn(weights_for(((0, 0),), 2)[0], ((1, -1), (-1, 1)))
        self.look(box_floor(6, 6), 4)
        self.assertIsNotNone(weights_for(box_floor(6, 6), 4))

    def test_floor_without_cells_and_of_one_cell(self):
        for length in LENGTHS:
            self.assertIsNone(weights_for((), length))
            for cell in itertools.product(range(8), range(8)):
                self.assertIsNotNone(weights_for((cell,), length))
                self.look((cell,), length)

    def test_each_floor(self):
        for floor in some_floors():
            for length in LENGTHS:
                self.look(floor, length)

    def test_all_small_floors(self):
        for floor in subsets_of_box(3, 3):
            for length in LENGTHS:
                self.look(floor, length)

    def test_what_is_no_length(self):
        for length in no_lengths():
            for floor in ((), ((0, 0),), box_floor(5, 8)):
                self.refuses(NoLength, weights_for, floor, length)


if __name__ == "__main__":
    unittest.main()
