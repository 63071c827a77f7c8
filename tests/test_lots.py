import itertools
import unittest

from barfloors.errors import NoBars, NoLength, TooMany
from barfloors.fillings import all_fillings, filling_at, first_filling, many_fillings
from barfloors.floors import box_floor, has_hole, pieces
from barfloors.lots import lots_of, way_to
from barfloors.turns import turned
from tests.things import LENGTHS, Asking, drawn, no_lengths, odd_things, some_floors, subsets_of_box

SQUARE = box_floor(2, 2)
TWO_ACROSS = ((0, 0, 0), (1, 0, 0))
TWO_DOWN = ((0, 0, 1), (0, 1, 1))
RING = drawn("###", "#.#", "###")
# Floors with just so many fillings by bars of length 2.
ONE_LESS = drawn("#######", "#######", "#######", ".######", "####..#", "###.###")
A_THOUSAND = drawn("######", "######", "###.##", "######", "##.###", "######")
ONE_MORE = drawn(".######", "#######", "#######", "#######", "#.###.#", "#.#####")
# Rings of other lengths, one cell wide: no filling of them has a block.
RINGS = {2: RING, 3: drawn("####", "#..#", "#..#", "####"), 4: drawn("#####", "#...#", "#...#", "#...#", "#####"),
         5: drawn("######", "#....#", "#....#", "#....#", "#....#", "######")}


def is_one_turn(one, other, length):
    """Whether the bars in which two fillings differ are a square of bars across and the same one of bars down."""
    gone, new = set(one) - set(other), set(other) - set(one)
    row, column = min(bar[:2] for bar in gone | new)
    across = {(row + step, column, 0) for step in range(length)}
    down = {(row, column + step, 1) for step in range(length)}
    return (gone, new) in ((across, down), (down, across))


def steps_apart(fillings, length):
    """For each filling's number how many turns lead from it to each other one, found by comparing each two."""
    beside = {number: [] for number in range(len(fillings))}
    for (one, first), (other, second) in itertools.combinations(enumerate(fillings), 2):
        if is_one_turn(first, second, length):
            beside[one].append(other)
            beside[other].append(one)
    told = []
    for start in beside:
        apart = {start: 0}
        waiting = [start]
        for number in waiting:
            for other in beside[number]:
                if other not in apart:
                    apart[other] = apart[number] + 1
                    waiting.append(other)
        told.append(apart)
    return told


class Trying(Asking):
    def follow(self, floor, length, one, way):
        """Where the way leads to; each of its turns is one."""
        for place in way:
            one = turned(floor, length, one, place)
        return one

    def look(self, floor, length):
        fillings = all_fillings(floor, length)
        apart = steps_apart(fillings, length)
        # From each filling of small floors, from some dozen of those that have more.
        starts = list(enumerate(fillings))[::len(fillings) // 12 + 1]
        for (one, first), (other, second) in itertools.product(starts, enumerate(fillings)):
            way = way_to(floor, length, first, second)
            if other in apart[one]:
                self.assertIsInstance(way, list)
                self.assertEqual(len(way), apart[one][other])
                self.assertEqual(self.follow(floor, length, first, way), second)
            else:
                self.assertIsNone(way)
        self.assertEqual(lots_of(floor, length), sorted({tuple(sorted(lot)) for lot in apart}))
        if len(pieces(floor)) == 1 and not has_hole(floor):
            self.assertLessEqual(len(lots_of(floor, length)), 1)

    def test_all_small_floors(self):
        for floor in subsets_of_box(3, 4):
            for length in (2, 3):
                self.look(floor, length)
        for floor in subsets_of_box(2, 5):
            for length in (4, 5):
                self.look(floor, length)

    def test_middling_floors(self):
        for floor in (box_floor(4, 4), box_floor(3, 6), drawn("####", "#..#", "####"), drawn("##.##", "##.##", "##.##"),
                      drawn(".##.", "####", "####", ".##."), drawn("####", "#.##", "####", "##.#", "####")):
            self.look(floor, 2)
        self.look(box_floor(3, 8), 3)
        self.look(box_floor(6, 6), 3)
        self.look(box_floor(5, 8), 4)
        self.look(box_floor(4, 8), 4)
        self.look(box_floor(5, 8), 5)
        self.look(box_floor(8, 5), 5)
        for length, ring in RINGS.items():
            self.look(ring, length)


class Ways(Asking):
    def test_one_turn_there_and_back(self):
        self.assertEqual(way_to(SQUARE, 2, TWO_ACROSS, TWO_DOWN), [(0, 0)])
        self.assertEqual(way_to(SQUARE, 2, TWO_DOWN, TWO_ACROSS), [(0, 0)])
        for length in LENGTHS:
            across = tuple((row, 0, 0) for row in range(length))
            down = tuple((0, column, 1) for column in range(length))
            self.assertEqual(way_to(box_floor(length, length), length, across, down), [(0, 0)])

    def test_several_turns_in_the_one_order_that_leads_there(self):
        one = ((0, 0, 0), (0, 2, 1), (1, 0, 0))
        other = ((0, 0, 1), (0, 1, 0), (1, 1, 0))
        self.assertEqual(way_to(box_floor(2, 3), 2, one, other), [(0, 0), (0, 1)])
        self.assertEqual(way_to(box_floor(2, 3), 2, other, one), [(0, 1), (0, 0)])

    def test_from_a_filling_to_itself(self):
        self.assertEqual(way_to((), 2, (), ()), [])
        self.assertEqual(way_to(SQUARE, 2, TWO_DOWN, TWO_DOWN), [])
        for filling in all_fillings(RING, 2):
            self.assertEqual(way_to(RING, 2, filling, filling), [])
        for number in (0, 500, 999):
            filling = filling_at(A_THOUSAND, 2, number)
            self.assertEqual(way_to(A_THOUSAND, 2, filling, filling), [])

    def test_fillings_that_no_turns_lead_to_one_another(self):
        for length, ring in RINGS.items():
            one, other = all_fillings(ring, length)
            self.assertIsNone(way_to(ring, length, one, other))
            self.assertIsNone(way_to(ring, length, other, one))

    def test_just_a_thousand_and_fewer(self):
        for floor, many in ((ONE_LESS, 999), (A_THOUSAND, 1000)):
            lots = lots_of(floor, 2)
            self.assertEqual(sorted(number for lot in lots for number in lot), list(range(many)))
            for lot in lots[:3]:
                one, other = (filling_at(floor, 2, number) for number in (lot[0], lot[-1]))
                way = way_to(floor, 2, one, other)
                back = way_to(floor, 2, other, one)
                self.assertEqual(len(way), len(back))
                for start, end, turns in ((one, other, way), (other, one, back)):
                    for place in turns:
                        start = turned(floor, 2, start, place)
                    self.assertEqual(start, end)
            if len(lots) > 1:
                one, other = (filling_at(floor, 2, lot[0]) for lot in lots[:2])
                self.assertIsNone(way_to(floor, 2, one, other))

    def test_more_than_a_thousand(self):
        known = {ONE_MORE: 1001, box_floor(4, 8): 2245, box_floor(6, 6): 6728, box_floor(5, 8): 14824}
        for floor, many in known.items():
            first = filling_at(floor, 2, 0)
            last = filling_at(floor, 2, many - 1)
            for one, other in ((first, first), (first, last), (last, first)):
                error = self.refuses(TooMany, way_to, floor, 2, one, other)
                self.assertEqual((error.many, error.most), (many, 1000))
            error = self.refuses(TooMany, lots_of, floor, 2)
            self.assertEqual((error.many, error.most), (many, 1000))

    def test_the_list_is_new(self):
        for one, other in ((TWO_ACROSS, TWO_DOWN), (TWO_DOWN, TWO_DOWN)):
            told = way_to(SQUARE, 2, one, other)
            kept = list(told)
            told.append((7, 7))
            self.assertEqual(way_to(SQUARE, 2, one, other), kept)

    def test_what_is_no_filling(self):
        wrong = [(), TWO_ACROSS[:1], TWO_ACROSS[::-1], list(TWO_ACROSS), ((0, 0, False), (1, 0, 0)), ((0, 0), (1, 0)),
                 ((0, 0, 0), (0, 0, 1)), 0, "000 100"]
        for thing in wrong + odd_things():
            self.refuses(NoBars, way_to, SQUARE, 2, thing, TWO_ACROSS)
            self.refuses(NoBars, way_to, SQUARE, 2, TWO_ACROSS, thing)
            self.refuses(NoBars, way_to, SQUARE, 2, thing, thing)
        self.refuses(NoBars, way_to, ((0, 0),), 2, (), ())
        self.refuses(NoBars, way_to, (), 2, TWO_ACROSS, ())
        self.refuses(NoBars, way_to, (), 2, (), TWO_ACROSS)

    def test_the_order_of_refusals(self):
        forty = box_floor(5, 8)
        filling = first_filling(forty, 2)
        for length in no_lengths():
            self.refuses(NoLength, way_to, forty, length, filling, filling)
            self.refuses(NoLength, way_to, forty, length, None, None)
            self.refuses(NoLength, way_to, SQUARE, length, TWO_ACROSS, TWO_DOWN)
            self.refuses(NoLength, lots_of, forty, length)
            self.refuses(NoLength, lots_of, (), length)
        # A floor with too many fillings, and things that are none of them.
        for thing in [filling[:-1], filling[::-1], list(filling), ()] + odd_things():
            self.refuses(NoBars, way_to, forty, 2, thing, filling)
            self.refuses(NoBars, way_to, forty, 2, filling, thing)


class Lots(Asking):
    def test_floors_without_cells_and_that_no_bars_fill(self):
        for length in LENGTHS:
            self.assertEqual(lots_of((), length), [(0,)])
            self.assertEqual(lots_of(((0, 0),), length), [])
        self.assertEqual(lots_of(box_floor(3, 3), 2), [])
        self.assertEqual(lots_of(box_floor(5, 8), 3), [])

    def test_one_lot(self):
        self.assertEqual(lots_of(SQUARE, 2), [(0, 1)])
        self.assertEqual(lots_of(box_floor(2, 3), 2), [(0, 1, 2)])
        self.assertEqual(lots_of(box_floor(1, 8), 2), [(0,)])
        self.assertEqual(lots_of(box_floor(4, 4), 2), [tuple(range(36))])
        self.assertEqual(lots_of(box_floor(5, 8), 5), [tuple(range(5))])

    def test_floors_with_holes(self):
        for length, ring in RINGS.items():
            self.assertEqual(lots_of(ring, length), [(0,), (1,)])
        # Just one filling of this one has no block.
        lots = [tuple(number for number in range(20) if number != 5), (5,)]
        self.assertEqual(lots_of(drawn("####", "####", "#.##", "#.##", "####"), 2), lots)

    def test_several_pieces(self):
        self.assertEqual(lots_of(drawn("##.##", "##.##"), 2), [(0, 1, 2, 3)])
        self.assertEqual(lots_of(drawn("###.##", "#.#.##", "###"), 2), [(0, 1), (2, 3)])
        self.assertEqual(lots_of(drawn("##.###", "##.#.#", "...###"), 2), [(0, 2), (1, 3)])

    def test_one_piece_without_holes(self):
        floors = [floor for floor in some_floors() if len(pieces(floor)) == 1 and not has_hole(floor)]
        self.assertGreater(len(floors), 10)
        for floor in floors:
            for length in LENGTHS:
                many = many_fillings(floor, length)
                if 1 <= many <= 1000:
                    self.assertEqual(lots_of(floor, length), [tuple(range(many))])

    def test_the_list_is_new(self):
        told = lots_of(SQUARE, 2)
        self.assertIsInstance(told, list)
        told[0] = ()
        told.append((5,))
        self.assertEqual(lots_of(SQUARE, 2), [(0, 1)])


if __name__ == "__main__":
    unittest.main()
