import copy
import unittest

from barfloors.errors import BarError, NoNumber, TooMany
from barfloors.floors import box_floor, has_hole, is_floor, mirrored, moved, pieces
from tests.things import FORTY_FIGURES, drawn, odd_things, subsets_of_box

ALL_CELLS = tuple((row, column) for row in range(8) for column in range(8))


class IsFloor(unittest.TestCase):
    def yes(self, thing):
        self.assertIs(is_floor(thing), True, thing)

    def no(self, thing):
        self.assertIs(is_floor(thing), False, thing)

    def test_none_one_and_forty_cells(self):
        self.yes(())
        for cell in ALL_CELLS:
            self.yes((cell,))
        self.yes(ALL_CELLS[:39])
        self.yes(ALL_CELLS[:40])
        self.yes(ALL_CELLS[24:])

    def test_forty_one_cells_and_more(self):
        self.no(ALL_CELLS[:41])
        self.no(ALL_CELLS)

    def test_a_cell_twice(self):
        self.no(((0, 0), (0, 0)))
        self.no(((0, 0), (3, 4), (3, 4), (5, 5)))

    def test_cells_that_do_not_rise(self):
        self.no(((0, 1), (0, 0)))
        self.no(((1, 0), (0, 7)))
        self.no(((0, 0), (2, 0), (1, 0)))
        self.no(((0, 0), (0, 1), (0, 0)))

    def test_cells_that_rise_by_row_first(self):
        self.yes(((0, 7), (1, 0)))
        self.no(((1, 0), (0, 1)))

    def test_numbers_beyond_seven_and_below_nought(self):
        for wrong in (8, 9, 40, FORTY_FIGURES, -1, -8, -FORTY_FIGURES):
            self.no(((wrong, 0),))
            self.no(((0, wrong),))
            self.no(tuple(sorted([(3, 3), (wrong, 0)])))
            self.no(tuple(sorted([(3, 3), (3, wrong)])))

    def test_lists_in_the_place_of_tuples(self):
        self.no([])
        self.no([(0, 0)])
        self.no(([0, 0],))
        self.no(((0, 0), [0, 1]))
        self.no([[0, 0], [0, 1]])

    def test_truths_in_the_place_of_numbers(self):
        self.no(((True, 0),))
        self.no(((0, True),))
        self.no(((False, 0),))
        self.no(((0, False),))
        self.no(((False, False), (False, True)))
        self.no(((0, 0), (0, True)))

    def test_a_number_more_or_fewer(self):
        self.no(((),))
        self.no(((0,),))
        self.no(((0, 0, 0),))
        self.no(((0, 0), (0,)))
        self.no(((0, 0), (0, 1, 0)))
        self.no((0, 0))

    def test_cells_beside_things_that_do_not_compare(self):
        for wrong in (None, "a", 5, [], {}, (), ("a", 0), (0, "a"), (None, 0), (0, None), (0, (0,)), {0: 0, 1: 1}, "ab"):
            self.no((wrong,))
            self.no(((0, 0), wrong))
            self.no((wrong, (0, 0)))

    def test_things_of_every_other_kind(self):
        for thing in odd_things() + [0, 1, 2, (0, 0, 0)]:
            self.no(thing)

    def test_what_is_asked_of_stays_as_it_was(self):
        things = odd_things()
        for thing in things:
            is_floor(thing)
        self.assertEqual(repr(things), repr(odd_things()))


class BoxFloor(unittest.TestCase):
    def test_all_boxes(self):
        for high in range(1, 9):
            for wide in range(1, 9):
                if high * wide > 40:
                    with self.assertRaises(TooMany) as caught:
                        box_floor(high, wide)
                    self.assertEqual((caught.exception.many, caught.exception.most), (high * wide, 40))
                else:
                    floor = box_floor(high, wide)
                    self.assertEqual(floor, drawn(*["#" * wide] * high))
                    self.assertIs(is_floor(floor), True)

    def test_small_boxes_written_out(self):
        self.assertEqual(box_floor(1, 1), ((0, 0),))
        self.assertEqual(box_floor(2, 3), ((0, 0), (0, 1), (0, 2), (1, 0), (1, 1), (1, 2)))
        self.assertEqual(box_floor(3, 1), ((0, 0), (1, 0), (2, 0)))

    def test_the_edge_of_forty(self):
        self.assertEqual(len(box_floor(5, 8)), 40)
        self.assertEqual(len(box_floor(8, 5)), 40)
        for high, wide in ((6, 7), (7, 6), (6, 8), (8, 8)):
            with self.assertRaises(TooMany):
                box_floor(high, wide)

    def test_what_is_no_number(self):
        for wrong in odd_things() + [0, 9, -1, 10, 41]:
            for high, wide in ((wrong, 1), (1, wrong), (wrong, wrong), (wrong, 8), (8, wrong)):
                with self.assertRaises(NoNumber):
                    box_floor(high, wide)

    def test_no_number_goes_ahead_of_too_many(self):
        for high, wide in ((9, 8), (8, 9), (9, 9), (0, 100), (100, 0), (FORTY_FIGURES, 2)):
            with self.assertRaises(NoNumber):
                box_floor(high, wide)

    def test_the_first_one_is_looked_at_first(self):
        # What may be neither compared nor multiplied must not be touched by the look at the other one.
        for high, wide in ((0, None), ("a", 9), (None, "a"), ([], {}), (True, False)):
            with self.assertRaises(NoNumber):
                box_floor(high, wide)

    def test_refusals_are_bar_errors(self):
        with self.assertRaises(BarError):
            box_floor(0, 0)
        with self.assertRaises(BarError):
            box_floor(8, 8)


class MirroredAndMoved(unittest.TestCase):
    def test_mirrored(self):
        self.assertEqual(mirrored(((0, 3), (1, 0), (1, 2))), ((0, 1), (2, 1), (3, 0)))
        self.assertEqual(mirrored(((2, 5),)), ((5, 2),))
        self.assertEqual(mirrored(()), ())

    def test_mirrored_boxes(self):
        for high in range(1, 6):
            for wide in range(1, 9):
                self.assertEqual(mirrored(box_floor(high, wide)), box_floor(wide, high))

    def test_mirrored_rises_and_twice_is_as_it_was(self):
        for floor in subsets_of_box(3, 4):
            once = mirrored(floor)
            self.assertIs(is_floor(once), True)
            self.assertEqual(sorted(once), sorted((column, row) for row, column in floor))
            self.assertEqual(mirrored(once), floor)

    def test_moved(self):
        self.assertEqual(moved(((2, 5), (3, 4))), ((0, 1), (1, 0)))
        self.assertEqual(moved(((7, 7),)), ((0, 0),))
        self.assertEqual(moved(((0, 3), (0, 4))), ((0, 0), (0, 1)))
        self.assertEqual(moved(((3, 0), (4, 0))), ((0, 0), (1, 0)))

    def test_least_row_and_column_of_unlike_cells(self):
        self.assertEqual(moved(((1, 6), (5, 2))), ((0, 4), (4, 0)))

    def test_moved_without_cells_stays(self):
        self.assertEqual(moved(()), ())

    def test_what_lies_at_nought_already_stays(self):
        for floor in ((), ((0, 0),), ((0, 1), (1, 0)), ((0, 7), (7, 0)), box_floor(5, 8)):
            self.assertEqual(moved(floor), floor)

    def test_moved_floors_keep_their_shape(self):
        for floor in subsets_of_box(3, 3):
            away = tuple((row + 4, column + 5) for row, column in floor)
            self.assertEqual(moved(away), moved(floor))
            self.assertIs(is_floor(moved(floor)), True)
            if floor:
                self.assertEqual(min(row for row, column in moved(floor)), 0)
                self.assertEqual(min(column for row, column in moved(floor)), 0)


def joined(floor):
    """The pieces of a floor by joining lots, as sorted lists."""
    lots = []
    for row, column in floor:
        near = {(row - 1, column), (row + 1, column), (row, column - 1), (row, column + 1)}
        touching = [lot for lot in lots if lot & near]
        lots = [lot for lot in lots if not lot & near]
        lots.append(set().union({(row, column)}, *touching))
    return sorted(tuple(sorted(lot)) for lot in lots)


class Pieces(unittest.TestCase):
    def test_none(self):
        self.assertEqual(pieces(()), [])

    def test_one(self):
        self.assertEqual(pieces(((3, 3),)), [((3, 3),)])
        self.assertEqual(pieces(box_floor(5, 8)), [box_floor(5, 8)])
        ring = drawn("###", "#.#", "###")
        self.assertEqual(pieces(ring), [ring])

    def test_cells_that_touch_by_a_corner_are_apart(self):
        self.assertEqual(pieces(((0, 0), (1, 1))), [((0, 0),), ((1, 1),)])
        self.assertEqual(pieces(((0, 1), (1, 0))), [((0, 1),), ((1, 0),)])

    def test_cells_at_both_ends_of_rows_are_apart(self):
        self.assertEqual(pieces(((0, 7), (1, 0))), [((0, 7),), ((1, 0),)])
        self.assertEqual(pieces(((0, 0), (0, 7))), [((0, 0),), ((0, 7),)])
        self.assertEqual(pieces(((0, 0), (0, 2), (2, 0))), [((0, 0),), ((0, 2),), ((2, 0),)])

    def test_several_rise_by_their_least_cells(self):
        floor = drawn("..##", "#..#", "#.##", "##..")
        self.assertEqual(pieces(floor), [
            ((0, 2), (0, 3), (1, 3), (2, 2), (2, 3)),
            ((1, 0), (2, 0), (3, 0), (3, 1)),
        ])

    def test_a_piece_met_late_from_its_upper_cell(self):
        # The U is joined by its lowest row alone, and the cell in it stands by itself.
        floor = drawn("#..#", "#.##", "#..#", "####")
        self.assertEqual(pieces(floor), [floor])
        floor = drawn("#...#", "#.#.#", "#...#", "#####")
        self.assertEqual(pieces(floor), [tuple(cell for cell in floor if cell != (1, 2)), ((1, 2),)])

    def test_a_long_piece(self):
        winding = drawn("########", ".......#", "########", "#.......", "########")
        self.assertEqual(pieces(winding), [winding])

    def test_all_small_floors(self):
        for floor in subsets_of_box(3, 4):
            told = pieces(floor)
            self.assertEqual(told, joined(floor))
            self.assertEqual(sorted(cell for piece in told for cell in piece), list(floor))

    def test_kinds(self):
        told = pieces(((0, 0), (1, 1)))
        self.assertIsInstance(told, list)
        self.assertTrue(all(isinstance(piece, tuple) for piece in told))

    def test_the_list_is_new_each_time(self):
        floor = drawn("##.#", "...#")
        first = pieces(floor)
        first.append("more")
        first[0] = ()
        self.assertEqual(pieces(floor), [((0, 0), (0, 1)), ((0, 3), (1, 3))])
        self.assertIsNot(pieces(floor), pieces(floor))
        self.assertIsNot(pieces(()), pieces(()))


class Holes(unittest.TestCase):
    def test_floors_with_a_hole(self):
        self.assertIs(has_hole(drawn("###", "#.#", "###")), True)
        self.assertIs(has_hole(drawn("####", "#..#", "####")), True)
        self.assertIs(has_hole(drawn("........", "...###..", "...#.#..", "...###..")), True)

    def test_a_hole_that_touches_the_outside_by_a_corner(self):
        self.assertIs(has_hole(drawn("##.", "#.#", "###")), True)
        self.assertIs(has_hole(drawn("###", "#.#", ".##")), True)
        self.assertIs(has_hole(drawn(".#.", "#.#", ".#.")), True)

    def test_floors_without(self):
        for floor in ((), ((0, 0),), ((7, 7),), box_floor(5, 8), box_floor(8, 5), drawn("###", "#.#", "#.#")):
            self.assertIs(has_hole(floor), False)
        self.assertIs(has_hole(drawn("##", "#.", "##")), False)

    def test_the_edges_are_no_walls(self):
        # Places shut off by cells and the edge of all cells come out beyond that edge.
        self.assertIs(has_hole(drawn(".#", "#.")), False)
        self.assertIs(has_hole(drawn("#.#", "###")), False)
        self.assertIs(has_hole(tuple((row, 7 - row) for row in range(8))), False)
        self.assertIs(has_hole(((6, 7), (7, 6))), False)
        self.assertIs(has_hole(((0, 6), (1, 7))), False)
        self.assertIs(has_hole(((0, 3), (1, 3), (2, 3), (3, 3), (4, 3), (5, 3), (6, 3), (7, 3))), False)

    def test_a_ring_along_all_edges(self):
        ring = tuple(cell for cell in ALL_CELLS if 0 in cell or 7 in cell)
        self.assertIs(has_hole(ring), True)
        for gone in ring:
            corner = gone[0] in (0, 7) and gone[1] in (0, 7)
            self.assertIs(has_hole(tuple(cell for cell in ring if cell != gone)), corner)

    def test_a_hole_in_the_last_corner(self):
        self.assertIs(has_hole(((5, 6), (6, 5), (6, 7), (7, 6))), True)

    def test_a_winding_way_out(self):
        self.assertIs(has_hole(drawn("######", "#....#", "#.##.#", "#.#..#", "#.####")), False)
        self.assertIs(has_hole(drawn("######", "#....#", "#.##.#", "#.#..#", "######")), True)

    def test_a_cell_within_a_hole(self):
        self.assertIs(has_hole(drawn("#####", "#...#", "#.#.#", "#...#", "#####")), True)

    def test_all_small_floors(self):
        # Within a box of three by three only the middle one can be shut off, within three by four also both together.
        for floor in subsets_of_box(3, 4):
            there = set(floor)
            alone = any(
                (1, column) not in there and {(0, column), (2, column), (1, column - 1), (1, column + 1)} <= there
                for column in (1, 2)
            )
            both = {(0, 1), (0, 2), (1, 0), (1, 3), (2, 1), (2, 2)} <= there and not {(1, 1), (1, 2)} & there
            self.assertIs(has_hole(floor), alone or both, floor)


class AskedAgain(unittest.TestCase):
    def test_the_same_answer_and_the_floor_as_it_was(self):
        floor = drawn(".##.#", ".#..#", ".###.")
        kept = copy.deepcopy(floor)
        for ask in (is_floor, mirrored, moved, pieces, has_hole):
            self.assertEqual(ask(floor), ask(floor))
            self.assertEqual(floor, kept)


if __name__ == "__main__":
    unittest.main()
