"""Things of every kind that the tests hand in, and plain reckonings to compare with."""

import functools
import itertools
import random
import unittest

FORTY_FIGURES = 10 ** 40 - 1
LENGTHS = (2, 3, 4, 5)


def nest(deep, inner):
    thing = inner
    for _ in range(deep):
        thing = (thing,)
    return thing


def odd_things():
    """Things that are neither a floor, nor a cell, a bar, a length or a number; new ones each time."""
    return [
        None, True, False, "", "a", "0", "(0, 0)", "-", "x" * 400,
        FORTY_FIGURES, -FORTY_FIGURES,
        [], [0], [0, 0], [0, 0, 0], [(0, 0)], [[0, 0]], [None], ["a", (0, 0)],
        {}, {0: 0}, {(0, 0): True}, {"row": 0, "column": 0}, {(0, 0): 1, (0, 1): 2},
        (None,), (None, None), (None, None, None), ("a",), ("0", "0"), ("0", "0", "0"),
        (True, False, True), (0, 0, 0, 0), ((), ()), ((), (), ()), ({}, [], ()),
        ([], [], []), ({}, {}, {}), (0, 0, None), (0, None, 0), (None, 0, 0),
        (0, 0, "a"), (0, 0, []), (0, 0, {}), (0, 0, (0,)),
        nest(6, 0), nest(7, "a"), [nest(5, {})], tuple(range(700)), list(range(700)),
        (0,) * 700, ((0, 0),) * 230,
    ]


def no_lengths():
    """Things that are no length; new ones each time."""
    return odd_things() + [0, 1, 6, -2, -1, 7, 40, (), (2,), [2], "2", {2: 2}]


def subsets_of_box(high, wide):
    """Every floor whose cells lie in the box."""
    cells = list(itertools.product(range(high), range(wide)))
    for many in range(len(cells) + 1):
        yield from itertools.combinations(cells, many)


def drawn(*rows):
    """The floor drawn by rows of # for cells."""
    return tuple((row, column) for row, line in enumerate(rows) for column, sign in enumerate(line) if sign == "#")


def some_floors():
    """Floors of every size: none, one and forty cells, boxes, with holes, in pieces, and scattered ones."""
    cells = list(itertools.product(range(8), range(8)))
    floors = [(), ((0, 0),), ((7, 7),), ((0, 0), (0, 1)), ((6, 7), (7, 7)), ((0, 0), (1, 1))]
    floors += [tuple(itertools.product(range(high), range(wide))) for high, wide in (
        (1, 8), (8, 1), (2, 2), (2, 5), (3, 4), (4, 4), (5, 5), (6, 6), (5, 8), (8, 5), (4, 8), (7, 5))]
    floors += [
        drawn("###", "#.#", "###"), drawn("####", "#..#", "####"), drawn(".##.", "####", "####", ".##."),
        drawn("########", "#..##..#", "########", "##.##.##", "####"), drawn("#######", "########", ".#######"),
        tuple(cells[24:]), tuple(cells[:40]), drawn(".......#", "......##", ".....###", "....####", "...#####"),
    ]
    # The same floors in each run: the numbers that choose them hang on a written seed.
    chance = random.Random(7)
    for many in (3, 8, 12, 20, 24, 30, 36, 39, 40, 40):
        floors.append(tuple(sorted(chance.sample(cells, many))))
        start = chance.randrange(0, len(cells) - many)
        floors.append(tuple(sorted(chance.sample(cells[start:], min(many, len(cells) - start)))))
    return floors


def cells_by_hand(bar, length):
    row, column, way = bar
    return [(row + step * way, column + step * (1 - way)) for step in range(length)]


def bars_by_trying(floor, length):
    """All bars within the floor, found by trying each that begins at a cell or just outside."""
    cells = set(floor)
    bars = itertools.product(range(-1, 9), range(-1, 9), (0, 1))
    return [bar for bar in bars if cells.issuperset(cells_by_hand(bar, length))]


@functools.cache
def packings_by_trying(floor, length):
    """All packings of the floor, found by leaving or taking each bar, in rising order."""
    packings = [((), frozenset())]
    for bar in bars_by_trying(floor, length):
        cells = frozenset(cells_by_hand(bar, length))
        packings += [(bars + (bar,), covered | cells) for bars, covered in packings if not covered & cells]
    return sorted(bars for bars, covered in packings)


def fillings_by_trying(floor, length):
    return [bars for bars in packings_by_trying(floor, length) if len(bars) * length == len(floor)]


def strips_by_cells(width, length, columns):
    """How many fillings a strip has, counted cell by cell, each column from its upper end to its lower one."""
    # A bit for each cell from this one on that is covered already.
    lots = {0: 1}
    across = sum(1 << width * step for step in range(length))
    down = (1 << length) - 1
    for column, row in itertools.product(range(columns), range(width)):
        behind = {}
        for lot, many in lots.items():
            steps = []
            if lot & 1:
                steps.append(lot)
            else:
                if column + length <= columns:
                    steps.append(lot | across)
                if row + length <= width and not lot & down:
                    steps.append(lot | down)
            for step in steps:
                behind[step >> 1] = behind.get(step >> 1, 0) + many
        lots = behind
    return lots.get(0, 0)


class Asking(unittest.TestCase):
    def refuses(self, error, deed, *things):
        """The deed refuses the things by this very class, and changes none of them."""
        before = repr(things)
        with self.assertRaises(error) as caught:
            deed(*things)
        self.assertIs(caught.exception.__class__, error)
        self.assertEqual(repr(things), before)
        return caught.exception
