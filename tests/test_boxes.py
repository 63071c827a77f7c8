import itertools
import unittest

from barfloors.boxes import box_hues, box_paper, can_fill, can_fill_two, filling_of_two, is_box_paper
from barfloors.errors import NoBox, NoLength, NoNumber, TooMany
from barfloors.fillings import is_filling, many_fillings
from barfloors.floors import box_floor
from tests.things import FORTY_FIGURES, LENGTHS, Asking, cells_by_hand, no_lengths, odd_things

FAR = 10 ** 9


def no_boxes():
    """Things that are no box; new ones each time."""
    wrong = [(), (0,), (-1,), (1, 0), (0, 1, 1), (1, 1, 0), (1, 1, 1, 1), (FAR + 1,), (1, FAR + 1), (1, 1, -FAR),
             (True,), (1, True), (False, 1, 1), [2], [2, 2], [2, 2, 2], ((2, 2),), ("2", 2), (2, None), (2, (2,)),
             2, 0, "22", {2: 2}, (FORTY_FIGURES,), (2, 2, FORTY_FIGURES), (2, [2], 2)]
    return wrong + odd_things()


def small_boxes():
    for sides in (1, 2, 3):
        yield from itertools.product(range(1, 9), repeat=sides)


def hues_by_counting(box, length):
    told = [0] * length
    for place in itertools.product(*[range(side) for side in box]):
        told[sum(place) % length] += 1
    return told


class CanFill(Asking):
    def test_each_side(self):
        self.assertIs(can_fill((4,), 2), True)
        self.assertIs(can_fill((5,), 2), False)
        self.assertIs(can_fill((3, 4), 2), True)
        self.assertIs(can_fill((4, 3), 2), True)
        self.assertIs(can_fill((3, 3), 2), False)
        self.assertIs(can_fill((5, 5, 6), 3), True)
        self.assertIs(can_fill((5, 6, 5), 3), True)
        self.assertIs(can_fill((6, 5, 5), 3), True)
        self.assertIs(can_fill((5, 5, 5), 3), False)

    def test_sides_whose_product_alone_is_divided(self):
        self.assertIs(can_fill((6, 6), 4), False)
        self.assertIs(can_fill((2, 2), 4), False)
        self.assertIs(can_fill((2, 2, 2), 4), False)
        self.assertIs(can_fill((2, 3, 6), 4), False)

    def test_sides_below_the_length(self):
        for length in LENGTHS:
            self.assertIs(can_fill((1,), length), False)
            self.assertIs(can_fill((1, 1), length), False)
            self.assertIs(can_fill((1, 1, 1), length), False)
            self.assertIs(can_fill((1, length), length), True)
            self.assertIs(can_fill((length - 1, length - 1, length - 1), length), False)

    def test_far_sides(self):
        for length in LENGTHS:
            self.assertIs(can_fill((FAR,), length), FAR % length == 0)
            self.assertIs(can_fill((FAR - 1, FAR - 1, FAR), length), FAR % length == 0 or (FAR - 1) % length == 0)
        self.assertIs(can_fill((FAR,), 3), False)
        self.assertIs(can_fill((FAR, FAR, FAR), 3), False)
        self.assertIs(can_fill((FAR - 1,), 3), True)

    def test_just_where_the_floor_of_the_box_has_a_filling(self):
        for high in range(1, 9):
            for wide in range(1, min(8, 40 // high) + 1):
                for length in LENGTHS:
                    self.assertIs(can_fill((high, wide), length), many_fillings(box_floor(high, wide), length) > 0)


class BoxHues(Asking):
    def test_small_boxes(self):
        self.assertEqual(box_hues((1,), 2), [1, 0])
        self.assertEqual(box_hues((3, 3), 2), [5, 4])
        self.assertEqual(box_hues((3, 3), 4), [2, 2, 3, 2])
        self.assertEqual(box_hues((2, 2, 2), 3), [2, 3, 3])
        self.assertEqual(box_hues((6, 6), 4), [9, 10, 9, 8])

    def test_each_small_box_by_counting(self):
        for box in small_boxes():
            for length in LENGTHS:
                told = box_hues(box, length)
                self.assertIsInstance(told, list)
                self.assertEqual(told, hues_by_counting(box, length))

    def test_far_sides(self):
        self.assertEqual(box_hues((FAR,), 3), [333333334, 333333333, 333333333])
        self.assertEqual(box_hues((FAR, FAR), 5), [FAR * FAR // 5] * 5)
        for box in ((FAR,), (FAR, FAR - 1), (FAR, FAR - 1, FAR - 2), (FAR, FAR, FAR)):
            for length in LENGTHS:
                told = box_hues(box, length)
                product = 1
                for side in box:
                    product *= side
                self.assertEqual(sum(told), product)
                self.assertEqual(len(set(told)) == 1, can_fill(box, length))

    def test_far_sides_differ_as_those_less_multiples_do(self):
        for length in LENGTHS:
            near = box_hues((3 * length + 1, length + 1, 1), length)
            far = box_hues((FAR // length * length - length + 1, FAR // length * length - length + 1, 1), length)
            self.assertEqual([many - near[0] for many in near], [many - far[0] for many in far])

    def test_the_list_is_new(self):
        told = box_hues((3, 3), 2)
        told[0] = 0
        told.append(1)
        self.assertEqual(box_hues((3, 3), 2), [5, 4])


class Papers(Asking):
    def yes(self, box, length, thing):
        self.assertIs(is_box_paper(box, length, thing), True, (box, length, thing))

    def no(self, box, length, thing):
        self.assertIs(is_box_paper(box, length, thing), False, (box, length, thing))

    def test_of_sides(self):
        self.yes((4, 3, 6), 2, ("sides", 0))
        self.no((4, 3, 6), 2, ("sides", 1))
        self.yes((4, 3, 6), 2, ("sides", 2))
        self.no((4, 3, 6), 2, ("sides", 3))
        self.no((4, 3, 6), 2, ("sides", -1))
        self.no((4, 3, 6), 2, ("sides", -3))
        self.no((4,), 2, ("sides", 1))
        self.yes((4,), 2, ("sides", 0))
        self.yes((FAR, 1), 5, ("sides", 0))

    def test_of_hues(self):
        self.yes((3, 3), 4, ("hues", 0, 2))
        self.yes((3, 3), 4, ("hues", 2, 3))
        self.no((3, 3), 4, ("hues", 0, 1))
        self.no((3, 3), 4, ("hues", 2, 0))
        self.no((3, 3), 4, ("hues", 2, 2))
        self.no((3, 3), 4, ("hues", 0, 4))
        self.no((3, 3), 4, ("hues", 2, 4))
        self.no((3, 3), 4, ("hues", -2, 1))
        self.no((3, 3), 4, ("hues", -1, 2))
        self.yes((2, 2, 2), 3, ("hues", 0, 1))
        self.yes((2, 2, 2), 3, ("hues", 0, 2))
        self.no((2, 2, 2), 3, ("hues", 1, 2))

    def test_other_forms(self):
        for thing in (["sides", 0], ("sides",), ("sides", 0, 0), ("sides", False), ("sides", "0"), ("sides", None),
                      ("sides", (0,)), ("side", 0), ("hues", 0), (0, "sides"), ("hues", 0, 1), {"sides": 0}, "sides",
                      (None, 0), (("sides",), 0), (["sides"], 0), ("sides", [0]), ("sides", {}), (), 0,
                      ("sides", FORTY_FIGURES), ("sides", -FORTY_FIGURES), ("Sides", 0)):
            self.no((4, 4), 2, thing)
        for thing in (["hues", 0, 2], ("hues", 0), ("hues", 0, 2, 0), ("hues", False, 2), ("hues", "0", "2"),
                      ("hues", None, 2), ("hues", 0, None), ("hues", (0,), 2), ("hues", 0, [2]), ("hues", (0, 2)),
                      ("sides", 0, 2), ("sides", 0), (0, 2), (0, 2, "hues"), {"hues": (0, 2)}, ("hues",), "hues", (),
                      ("hues", 0, FORTY_FIGURES), ("hues", -FORTY_FIGURES, 2), ("hues", True, 2), ("HUES", 0, 2)):
            self.no((3, 3), 4, thing)

    def test_things_of_every_other_kind(self):
        for thing in odd_things():
            for box in ((4,), (4, 4), (3, 3), (3, 3, 3)):
                self.no(box, 2, thing)

    def test_told_is_the_first(self):
        self.assertEqual(box_paper((4,), 2), ("sides", 0))
        self.assertEqual(box_paper((4, 4), 2), ("sides", 0))
        self.assertEqual(box_paper((3, 4), 2), ("sides", 1))
        self.assertEqual(box_paper((3, 5, 4), 2), ("sides", 2))
        self.assertEqual(box_paper((3, 4, 4), 2), ("sides", 1))
        self.assertEqual(box_paper((3, 3), 4), ("hues", 0, 2))
        self.assertEqual(box_paper((2, 2, 2), 3), ("hues", 0, 1))
        self.assertEqual(box_paper((4, 4), 5), ("hues", 0, 3))
        self.assertEqual(box_paper((FAR, FAR, FAR), 3), ("hues", 0, 1))
        self.assertEqual(box_paper((FAR - 1, FAR, FAR), 4), ("sides", 1))

    def test_each_small_box(self):
        for box in small_boxes():
            for length in LENGTHS:
                counts = hues_by_counting(box, length)
                sides = [("sides", k) for k, side in enumerate(box) if side % length == 0]
                pairs = itertools.combinations(range(length), 2)
                differ = [("hues", one, other) for one, other in pairs if counts[one] != counts[other]]
                self.assertEqual(box_paper(box, length), (sides + differ)[0])
                self.assertTrue(not sides or not differ)
                self.assertIs(can_fill(box, length), bool(sides))

    def test_all_tuples_of_small_numbers(self):
        for box in ((3,), (4,), (3, 3), (2, 4), (2, 2, 2), (3, 3, 3), (4, 4, 4)):
            for length in LENGTHS:
                counts = hues_by_counting(box, length)
                for k in range(-4, 7):
                    right = 0 <= k < len(box) and box[k] % length == 0
                    self.assertIs(is_box_paper(box, length, ("sides", k)), right)
                for one, other in itertools.product(range(-6, 7), repeat=2):
                    right = 0 <= one < other < length and counts[one] != counts[other]
                    self.assertIs(is_box_paper(box, length, ("hues", one, other)), right)


class Refusals(Asking):
    def test_what_is_no_box(self):
        for box in no_boxes():
            for deed in (can_fill, box_hues, box_paper):
                self.refuses(NoBox, deed, box, 2)
            self.refuses(NoBox, is_box_paper, box, 2, ("sides", 0))

    def test_what_is_no_length(self):
        for length in no_lengths():
            for box in ((2,), (2, 2), (FAR, FAR, FAR)):
                for deed in (can_fill, box_hues, box_paper):
                    self.refuses(NoLength, deed, box, length)
                self.refuses(NoLength, is_box_paper, box, length, ("sides", 0))
                self.refuses(NoLength, is_box_paper, box, length, None)

    def test_the_box_is_looked_at_ahead_of_the_length(self):
        for box in ((), (0,), [2], None, (True,)):
            for length in no_lengths():
                for deed in (can_fill, box_hues, box_paper):
                    self.refuses(NoBox, deed, box, length)
                self.refuses(NoBox, is_box_paper, box, length, None)


def two_by_trying(high, wide, across, down):
    """Whether the box can be filled by bars of two lengths, by covering the first open cell in each way."""
    full = frozenset(itertools.product(range(high), range(wide)))
    waiting = [full]
    seen = {full}
    while waiting:
        left = waiting.pop()
        if not left:
            return True
        row, column = min(left)
        for bar, length in (((row, column, 0), across), ((row, column, 1), down)):
            cells = frozenset(cells_by_hand(bar, length))
            if cells <= left and left - cells not in seen:
                seen.add(left - cells)
                waiting.append(left - cells)
    return False


class TwoLengths(Asking):
    def test_ordinary(self):
        self.assertIs(can_fill_two(2, 3, 3, 5), True)
        self.assertEqual(filling_of_two(2, 3, 3, 5), ((0, 0, 0), (1, 0, 0)))
        self.assertIs(can_fill_two(4, 3, 2, 4), True)
        self.assertEqual(filling_of_two(4, 3, 2, 4), ((0, 0, 1), (0, 1, 1), (0, 2, 1)))
        self.assertEqual(filling_of_two(4, 2, 5, 2), ((0, 0, 1), (0, 1, 1), (2, 0, 1), (2, 1, 1)))
        self.assertIs(can_fill_two(3, 5, 2, 2), False)
        self.assertIsNone(filling_of_two(3, 5, 2, 2))
        self.assertIsNone(filling_of_two(1, 1, 2, 2))

    def test_across_where_both_would_do(self):
        self.assertEqual(filling_of_two(2, 2, 2, 2), ((0, 0, 0), (1, 0, 0)))
        self.assertEqual(filling_of_two(3, 4, 4, 3), ((0, 0, 0), (1, 0, 0), (2, 0, 0)))

    def test_the_first_length_goes_with_the_columns(self):
        self.assertIs(can_fill_two(2, 3, 2, 3), False)
        self.assertIs(can_fill_two(2, 3, 3, 2), True)
        self.assertIs(can_fill_two(4, 5, 5, 3), True)
        self.assertIs(can_fill_two(5, 4, 5, 3), False)

    def test_forty_cells(self):
        self.assertEqual(len(filling_of_two(5, 8, 2, 5)), 20)
        self.assertEqual(len(filling_of_two(5, 8, 3, 5)), 8)
        self.assertIsNone(filling_of_two(5, 8, 3, 4))
        self.assertEqual(len(filling_of_two(8, 5, 5, 5)), 8)

    def test_each_box_by_trying(self):
        for high in range(1, 9):
            for wide in range(1, min(8, 40 // high) + 1):
                for across, down in itertools.product(LENGTHS, LENGTHS):
                    self.look(high, wide, across, down)

    def look(self, high, wide, across, down):
        can = can_fill_two(high, wide, across, down)
        filling = filling_of_two(high, wide, across, down)
        self.assertIs(can, two_by_trying(high, wide, across, down))
        if not can:
            self.assertIsNone(filling)
            return
        self.assertIsInstance(filling, tuple)
        ways = {way for row, column, way in filling}
        self.assertEqual(ways, {0} if wide % across == 0 else {1})
        self.assertIs(is_filling(box_floor(high, wide), across if ways == {0} else down, filling), True)

    def test_numbers_that_are_none(self):
        for deed in (can_fill_two, filling_of_two):
            for number in odd_things() + [0, 9, -1, 10, (1,), "1"]:
                self.refuses(NoNumber, deed, number, 2, 2, 2)
                self.refuses(NoNumber, deed, 2, number, 2, 2)

    def test_lengths_that_are_none(self):
        for deed in (can_fill_two, filling_of_two):
            for length in no_lengths():
                self.refuses(NoLength, deed, 2, 2, length, 2)
                self.refuses(NoLength, deed, 2, 2, 2, length)

    def test_too_many_cells(self):
        for deed in (can_fill_two, filling_of_two):
            for high, wide in ((6, 7), (7, 6), (8, 6), (8, 8)):
                error = self.refuses(TooMany, deed, high, wide, 2, 2)
                self.assertEqual((error.many, error.most), (high * wide, 40))

    def test_order_of_refusals(self):
        for deed in (can_fill_two, filling_of_two):
            self.refuses(NoNumber, deed, 9, 9, 1, 1)
            self.refuses(NoNumber, deed, 8, 9, 1, 1)
            self.refuses(NoNumber, deed, 8, None, None, None)
            for number in (0, 9, None, True):
                self.refuses(NoNumber, deed, number, 2, 1, 1)
                self.refuses(NoNumber, deed, 2, number, 1, 1)
                self.refuses(NoNumber, deed, number, 2, None, 2)
                self.refuses(NoNumber, deed, 2, number, 2, None)
            # Too many cells go behind both lengths.
            self.refuses(NoLength, deed, 8, 8, 1, 2)
            self.refuses(NoLength, deed, 8, 8, 2, 6)
            self.refuses(NoLength, deed, 8, 8, None, True)


if __name__ == "__main__":
    unittest.main()
