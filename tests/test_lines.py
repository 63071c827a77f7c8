import itertools
import unittest

from barfloors.errors import NoNumber, NoSorts
from barfloors.lines import cheapest_line, line_paper, line_paper_shows, line_ways
from tests.things import FORTY_FIGURES, Asking, odd_things

BILLION = 10 ** 12
PENNIES = ((1, 1), (2, 3), (5, 4))
NO_SORTS = [
    (), [], [(1, 1)], ((1, 1), (2, 1), (3, 1), (4, 1), (5, 1)), ((2, 1), (1, 1)), ((1, 1), (1, 1)), ((1, 1), (1, 2)),
    ((1, 2), (1, 1)), ((0, 1),), ((10, 1),), ((-1, 1),), ((1, -1),), ((1, BILLION + 1),), ((True, 1),), ((1, True),),
    ((1, False),), ((1,),), ((1, 1, 1),), (1, 1), ([1, 1],), ((1, "1"),), (("1", 1),), ((1, None),), ((None, 1),),
    ((1, (1,)),), ((1, FORTY_FIGURES),), ((1, -FORTY_FIGURES),), ((FORTY_FIGURES, 1),), ((1, 1), None), (None, (1, 1)),
    ((1, 1), (2, 1), (2, 2), (3, 1)), {(1, 1): True}, {1: 1}, "11", 1, (((1, 1),),), ((1, 1), [2, 2]),
]
NO_CELLS = [-1, 201, -2, 1000, BILLION, (), (1,), [1], "1", {1: 1}]
# Sorts of one to four bars: prices 0, alike, the highest, and longs that leave lines unfilled.
SORTS = [
    ((1, 0),), ((9, BILLION),), ((2, 5),), ((1, 1), (2, 1)), ((1, 1), (2, 2)), ((1, 1), (2, 3)), ((1, 5), (2, 3)),
    ((2, 0), (3, 0)), ((2, 3), (4, 6)), ((6, 1), (9, 1)), ((4, 7), (7, 2), (9, 3)), ((3, 10), (5, 1), (8, 12)),
    ((2, 7), (4, 1), (6, 9), (8, 2)), PENNIES, ((1, BILLION), (3, BILLION), (5, 0), (7, BILLION)),
    ((1, 3), (2, 6), (3, 9), (4, 12)), ((6, 4), (7, 1), (8, 9), (9, 2)), ((1, 0), (2, 0), (3, 0), (4, 0)),
]


def lines_by_trying(sorts, cells):
    """All tuples of longs that fill the line, in order."""
    told = [()] if cells == 0 else []
    for long, price in sorts:
        if long <= cells:
            told += [(long,) + rest for rest in lines_by_trying(sorts, cells - long)]
    return told


def price_of(sorts, longs):
    return sum(dict(sorts)[long] for long in longs)


def shown_by_hand(sorts, cells, paper):
    for long, price in sorts:
        for first in range(cells):
            if first + long <= cells and sum(paper[first + step] for step in range(long)) > price:
                return None
    return sum(paper)


def prices_by_heap(sorts, cells):
    """The least price of a filling, found from price to price, cheapest first; None where there is none."""
    waiting = {0: 0}
    known = {}
    while waiting:
        here = min(waiting, key=waiting.get)
        known[here] = waiting.pop(here)
        for long, price in sorts:
            there = here + long
            if there <= cells and there not in known:
                waiting[there] = min(waiting.get(there, known[here] + price), known[here] + price)
    return known.get(cells)


class Ways(Asking):
    def test_known_numbers(self):
        self.assertEqual(line_ways(((1, 0),), 200), 1)
        self.assertEqual(line_ways(((1, 1), (2, 1)), 5), 8)
        self.assertEqual(line_ways(((1, 1), (2, 1)), 200), 453973694165307953197296969697410619233826)
        self.assertEqual(line_ways(((2, 5),), 199), 0)
        self.assertEqual(line_ways(((2, 5),), 200), 1)
        self.assertEqual(line_ways(((9, 0),), 200), 0)
        self.assertEqual(line_ways(((9, 0),), 198), 1)

    def test_no_cells(self):
        for sorts in SORTS:
            self.assertEqual(line_ways(sorts, 0), 1)
            self.assertEqual(cheapest_line(sorts, 0), (0, ()))

    def test_by_trying(self):
        for sorts in SORTS:
            for cells in range(15):
                self.assertEqual(line_ways(sorts, cells), len(lines_by_trying(sorts, cells)))

    def test_each_first_bar_leaves_a_shorter_line(self):
        for sorts in SORTS:
            for cells in (60, 151, 199, 200):
                self.assertEqual(line_ways(sorts, cells), sum(line_ways(sorts, cells - long) for long, price in sorts))


class Cheapest(Asking):
    def test_known_lines(self):
        self.assertEqual(cheapest_line(PENNIES, 7), (6, (1, 1, 5)))
        self.assertEqual(cheapest_line(((2, 5),), 3), None)
        self.assertEqual(cheapest_line(((2, 5),), 6), (15, (2, 2, 2)))
        self.assertEqual(cheapest_line(((9, BILLION),), 198), (22 * BILLION, (9,) * 22))
        self.assertEqual(cheapest_line(((1, BILLION),), 200), (200 * BILLION, (1,) * 200))
        self.assertEqual(cheapest_line(((1, 5), (2, 3)), 3), (8, (1, 2)))

    def test_of_several_the_first(self):
        self.assertEqual(cheapest_line(((1, 0), (2, 0), (3, 0)), 5), (0, (1, 1, 1, 1, 1)))
        self.assertEqual(cheapest_line(((1, 1), (2, 2)), 4), (4, (1, 1, 1, 1)))
        self.assertEqual(cheapest_line(((2, 1), (3, 1)), 7), (3, (2, 2, 3)))
        self.assertEqual(cheapest_line(((2, 0), (3, 0)), 200), (0, (2,) * 100))
        self.assertEqual(cheapest_line(((2, 0), (3, 0)), 199), (0, (2,) * 98 + (3,)))
        self.assertEqual(cheapest_line(((1, 3), (4, 3)), 6), (9, (1, 1, 4)))

    def test_by_trying(self):
        for sorts in SORTS:
            for cells in range(15):
                lines = [(price_of(sorts, longs), longs) for longs in lines_by_trying(sorts, cells)]
                self.assertEqual(cheapest_line(sorts, cells), min(lines, default=None))

    def test_all_small_sorts_by_trying(self):
        for longs in itertools.combinations((1, 2, 3, 4), 2):
            for prices in itertools.product((0, 1, 2, 3), repeat=2):
                sorts = tuple(zip(longs, prices))
                for cells in range(9):
                    lines = [(price_of(sorts, line), line) for line in lines_by_trying(sorts, cells)]
                    self.assertEqual(cheapest_line(sorts, cells), min(lines, default=None))

    def test_long_lines(self):
        for sorts in SORTS:
            for cells in (100, 197, 198, 199, 200):
                told = cheapest_line(sorts, cells)
                price = prices_by_heap(sorts, cells)
                if price is None:
                    self.assertIsNone(told)
                    self.assertEqual(line_ways(sorts, cells), 0)
                else:
                    self.assertEqual(told[0], price)
                    self.assertIsInstance(told[1], tuple)
                    self.assertEqual(sum(told[1]), cells)
                    self.assertEqual(price_of(sorts, told[1]), price)


class Shows(Asking):
    def test_papers(self):
        self.assertEqual(line_paper_shows(PENNIES, 3, (1, 1, 1)), 3)
        self.assertEqual(line_paper_shows(PENNIES, 3, (0, 0, 0)), 0)
        self.assertEqual(line_paper_shows(PENNIES, 3, (-FORTY_FIGURES, 1, 1)), 2 - FORTY_FIGURES)
        self.assertEqual(line_paper_shows(((2, 3),), 3, (5, -2, 5)), 8)
        self.assertEqual(line_paper_shows(((2, 3),), 3, (FORTY_FIGURES, 3 - FORTY_FIGURES, FORTY_FIGURES)),
                         3 + FORTY_FIGURES)
        self.assertEqual(line_paper_shows(((1, BILLION),), 2, (BILLION, BILLION)), 2 * BILLION)

    def test_a_stretch_that_comes_to_more(self):
        self.assertIsNone(line_paper_shows(PENNIES, 3, (1, 1, 2)))
        self.assertIsNone(line_paper_shows(PENNIES, 3, (2, 1, 1)))
        self.assertIsNone(line_paper_shows(PENNIES, 5, (1, 1, 1, 1, 1)))
        self.assertEqual(line_paper_shows(PENNIES, 5, (1, 1, 1, 1, 0)), 4)
        self.assertIsNone(line_paper_shows(((2, 3),), 3, (5, -2, 6)))
        self.assertIsNone(line_paper_shows(((1, 0),), 1, (1,)))
        self.assertEqual(line_paper_shows(((1, 0),), 1, (0,)), 0)
        self.assertIsNone(line_paper_shows(((9, 8),), 9, (1,) * 9))
        self.assertIsNone(line_paper_shows(((9, 8),), 200, (0,) * 191 + (1,) * 9))
        self.assertEqual(line_paper_shows(((9, 8),), 200, (0,) * 192 + (1,) * 8), 8)

    def test_sorts_longer_than_the_line_bind_nothing(self):
        self.assertEqual(line_paper_shows(((9, 0),), 8, (7,) * 8), 56)
        self.assertIsNone(line_paper_shows(((9, 0),), 9, (7,) * 9))
        self.assertEqual(line_paper_shows(((2, 0),), 1, (FORTY_FIGURES,)), FORTY_FIGURES)

    def test_no_cells(self):
        for sorts in SORTS:
            self.assertEqual(line_paper_shows(sorts, 0, ()), 0)
            for thing in ([], (0,), None, 0, "", {}):
                self.assertIsNone(line_paper_shows(sorts, 0, thing))

    def test_lists_truths_and_other_parts(self):
        for thing in ([0, 0, 0], (0, 0), (0, 0, 0, 0), (), (0, True, 0), (False, 0, 0), (0, 0, None), (0, "0", 0),
                      "000", ((0, 0, 0),), (0, 0, (0,)), {0: 0, 1: 0, 2: 0}, 0, None, True):
            self.assertIsNone(line_paper_shows(PENNIES, 3, thing))

    def test_things_of_every_other_kind(self):
        things = odd_things()
        for cells in (5, 200):
            for thing in things:
                self.assertIsNone(line_paper_shows(PENNIES, cells, thing))
        self.assertEqual(repr(things), repr(odd_things()))

    def test_just_what_is_shown_by_hand(self):
        for sorts in SORTS[:8]:
            for paper in itertools.product((-3, 0, 1, 4), repeat=4):
                self.assertEqual(line_paper_shows(sorts, 4, paper), shown_by_hand(sorts, 4, paper))

    def test_no_line_is_filled_cheaper_than_a_paper_shows(self):
        for sorts in SORTS:
            for cells in range(6):
                lines = lines_by_trying(sorts, cells)
                for paper in itertools.product((-2, 0, 1, 3), repeat=cells):
                    shown = line_paper_shows(sorts, cells, paper)
                    if shown is not None:
                        self.assertTrue(all(price_of(sorts, longs) >= shown for longs in lines))


class Papers(Asking):
    def look(self, sorts, cells):
        paper = line_paper(sorts, cells)
        line = cheapest_line(sorts, cells)
        if line is None:
            self.assertIsNone(paper)
        else:
            self.assertIsInstance(paper, tuple)
            self.assertEqual(len(paper), cells)
            self.assertTrue(all(number.__class__ is int for number in paper))
            self.assertEqual(shown_by_hand(sorts, cells, paper), line[0])
            self.assertEqual(line_paper_shows(sorts, cells, paper), line[0])

    def test_known_papers(self):
        self.assertEqual(line_paper(((1, 3),), 2), (3, 3))
        self.assertEqual(line_paper(PENNIES, 0), ())
        self.assertIsNone(line_paper(((2, 5),), 3))
        self.assertIsNone(line_paper(((9, 0),), 8))

    def test_all_lines(self):
        for sorts in SORTS:
            for cells in list(range(31)) + [99, 100, 197, 198, 199, 200]:
                self.look(sorts, cells)

    def test_all_small_sorts(self):
        for longs in itertools.combinations(range(1, 10), 3):
            for prices in ((0, 0, 0), (5, 0, 7), (0, 5, 1), (7, 7, 7), (BILLION, 1, 0), (0, 1, BILLION)):
                for cells in (1, 7, 8, 17, 23, 24):
                    self.look(tuple(zip(longs, prices)), cells)

    def test_paper_and_filling_are_there_together(self):
        for sorts in SORTS:
            for cells in range(30):
                nothing = line_ways(sorts, cells) == 0
                self.assertEqual(cheapest_line(sorts, cells) is None, nothing)
                self.assertEqual(line_paper(sorts, cells) is None, nothing)


class Refusals(Asking):
    def each(self, error, sorts, cells):
        for deed in (line_ways, cheapest_line, line_paper):
            self.refuses(error, deed, sorts, cells)
        for thing in ((), (0, 0, 0), None):
            self.refuses(error, line_paper_shows, sorts, cells, thing)

    def test_what_is_no_sorts(self):
        for sorts in NO_SORTS + odd_things():
            self.each(NoSorts, sorts, 3)

    def test_what_is_no_number_of_cells(self):
        for cells in NO_CELLS + odd_things():
            self.each(NoNumber, PENNIES, cells)

    def test_sorts_go_ahead_of_cells(self):
        for sorts in ((), None, ((1, -1),), [(1, 1)]):
            for cells in (-1, 201, None, True):
                self.each(NoSorts, sorts, cells)

    def test_the_edges_are_let(self):
        for sorts in (((1, 0),), ((9, BILLION),), ((1, 0), (2, BILLION), (8, 0), (9, 5))):
            for cells in (0, 1, 199, 200):
                self.assertGreaterEqual(line_ways(sorts, cells), 0)


if __name__ == "__main__":
    unittest.main()
