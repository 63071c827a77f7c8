"""Things of every kind that the tests hand in, and plain reckonings to compare with."""

import itertools

FORTY_FIGURES = 10 ** 40 - 1


def nest(deep, inner):
    thing = inner
    for _ in range(deep):
        thing = (thing,)
    return thing


def odd_things():
    """Things that are neither a floor, nor a cell, a bar, a length or a number; new ones each time."""
    return [
        None, True, False, "", "a", "0", "(0, 0)", "-", "x" * 400,
        FORTY_FIGURES, -FORTY_FIGURES,
        [], [0], [0, 0], [0, 0, 0], [(0, 0)], [[0, 0]], [None], ["a", (0, 0)],
        {}, {0: 0}, {(0, 0): True}, {"row": 0, "column": 0}, {(0, 0): 1, (0, 1): 2},
        (None,), (None, None), (None, None, None), ("a",), ("0", "0"), ("0", "0", "0"),
        (True, False, True), (0, 0, 0, 0), ((), ()), ((), (), ()), ({}, [], ()),
        ([], [], []), ({}, {}, {}), (0, 0, None), (0, None, 0), (None, 0, 0),
        (0, 0, "a"), (0, 0, []), (0, 0, {}), (0, 0, (0,)),
        nest(6, 0), nest(7, "a"), [nest(5, {})], tuple(range(700)), list(range(700)),
        (0,) * 700, ((0, 0),) * 230,
    ]


def subsets_of_box(high, wide):
    """Every floor whose cells lie in the box."""
    cells = list(itertools.product(range(high), range(wide)))
    for many in range(len(cells) + 1):
        yield from itertools.combinations(cells, many)


def drawn(*rows):
    """The floor drawn by rows of # for cells."""
    return tuple((row, column) for row, line in enumerate(rows) for column, sign in enumerate(line) if sign == "#")
