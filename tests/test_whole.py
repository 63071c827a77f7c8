"""What the document promises over the whole program: its names, new lists, the same answers, and all of it together."""

import copy
import importlib
import inspect
import itertools
import unittest

from barfloors import errors
from barfloors.bars import bars_of, cells_of
from barfloors.boxes import can_fill
from barfloors.desk import Desk
from barfloors.fillings import all_fillings, first_filling, many_fillings
from barfloors.floors import box_floor, has_hole, pieces
from barfloors.lines import cheapest_line, line_paper, line_paper_shows
from barfloors.lots import lots_of, way_to
from barfloors.most import box_left, left_over, most_packing
from barfloors.rests import first_apart, hues, sums_of
from barfloors.rooms import many_room_fillings
from barfloors.signed import is_signed, signed_for
from barfloors.texts import bars_read, bars_text, floor_read, floor_text
from barfloors.turns import blocks_of, turned
from barfloors.weights import weight_of, weights_for
from tests.things import LENGTHS, Asking, drawn, no_lengths, odd_things, some_floors, subsets_of_box

SQUARE = box_floor(2, 2)
ACROSS = ((0, 0, 0), (1, 0, 0))
DOWN = ((0, 0, 1), (0, 1, 1))
ROOM_FILLING = ((0, 0, 0, 0), (0, 1, 0, 0))
CHESS = ((1, -1), (-1, 1))
SORTS = ((2, 3), (5, 1))

# Every function of the interface: its module, its name, its parameters, and things that it answers.
INTERFACE = [
    ("floors", "is_floor", "thing", (SQUARE,)), ("floors", "box_floor", "high wide", (2, 3)),
    ("floors", "mirrored", "floor", (box_floor(2, 3),)), ("floors", "moved", "floor", (((3, 4), (4, 3)),)),
    ("floors", "pieces", "floor", (((0, 0), (1, 1)),)), ("floors", "has_hole", "floor", (SQUARE,)),
    ("bars", "is_bar", "thing", ((0, 0, 0),)), ("bars", "cells_of", "bar length", ((0, 0, 1), 3)),
    ("bars", "bars_of", "floor length", (SQUARE, 2)),
    ("rests", "hues", "floor length", (SQUARE, 3)), ("rests", "rests", "floor length", (SQUARE, 3)),
    ("rests", "sums_of", "floor length", (SQUARE, 2)), ("rests", "first_apart", "floor length", (SQUARE, 3)),
    ("fillings", "is_filling", "floor length thing", (SQUARE, 2, DOWN)),
    ("fillings", "many_fillings", "floor length", (SQUARE, 2)),
    ("fillings", "first_filling", "floor length", (SQUARE, 2)),
    ("fillings", "filling_at", "floor length number", (SQUARE, 2, 1)),
    ("fillings", "number_of", "floor length filling", (SQUARE, 2, DOWN)),
    ("fillings", "all_fillings", "floor length", (SQUARE, 2)),
    ("fillings", "many_with", "floor length bar", (SQUARE, 2, (0, 0, 0))),
    ("fillings", "bar_counts", "floor length", (SQUARE, 2)),
    ("boxes", "can_fill", "box length", ((6, 6), 4)), ("boxes", "box_hues", "box length", ((6, 6), 4)),
    ("boxes", "is_box_paper", "box length thing", ((6, 6), 4, ("hues", 0, 1))),
    ("boxes", "box_paper", "box length", ((6, 6), 4)),
    ("boxes", "can_fill_two", "high wide across down", (2, 3, 3, 5)),
    ("boxes", "filling_of_two", "high wide across down", (2, 3, 3, 5)),
    ("most", "is_packing", "floor length thing", (SQUARE, 2, ((0, 0, 0),))),
    ("most", "left_over", "floor length packing", (SQUARE, 2, ((0, 0, 0),))),
    ("most", "most_packing", "floor length", (SQUARE, 2)), ("most", "box_left", "rows columns length", (6, 6, 4)),
    ("nets", "is_net", "floor length thing", (SQUARE, 2, ((0, 0), (1, 1)))),
    ("nets", "least_hue", "floor length", (SQUARE, 2)),
    ("signed", "is_signed", "floor length thing", (SQUARE, 2, tuple((bar, 1) for bar in DOWN))),
    ("signed", "signed_for", "floor length", (SQUARE, 2)),
    ("weights", "are_weights", "length thing", (2, CHESS)),
    ("weights", "weight_of", "floor length weights", (SQUARE, 2, CHESS)),
    ("weights", "weights_for", "floor length", (((0, 0),), 2)),
    ("turns", "blocks_of", "floor length filling", (SQUARE, 2, DOWN)),
    ("turns", "turned", "floor length filling place", (SQUARE, 2, DOWN, (0, 0))),
    ("turns", "rises", "floor length filling place", (SQUARE, 2, DOWN, (0, 0))),
    ("lots", "way_to", "floor length one other", (SQUARE, 2, ACROSS, DOWN)),
    ("lots", "lots_of", "floor length", (SQUARE, 2)),
    ("strips", "strip_many", "width length columns", (4, 2, 3)),
    ("strips", "strip_counts", "width length columns", (4, 2, 3)),
    ("rules", "is_rule", "width length thing", (2, 2, (1, 1))), ("rules", "rule_of", "width length", (2, 2)),
    ("rooms", "is_room_filling", "room length thing", ((2, 2, 1), 2, ROOM_FILLING)),
    ("rooms", "room_filling", "room length", ((2, 2, 1), 2)),
    ("rooms", "many_room_fillings", "room length", ((2, 2, 1), 2)),
    ("rooms", "room_hues", "room length", ((2, 2, 1), 2)),
    ("lines", "line_ways", "sorts cells", (SORTS, 7)), ("lines", "cheapest_line", "sorts cells", (SORTS, 7)),
    ("lines", "line_paper_shows", "sorts cells thing", (SORTS, 2, (1, 2))),
    ("lines", "line_paper", "sorts cells", (SORTS, 7)),
    ("texts", "floor_text", "floor", (SQUARE,)), ("texts", "bars_text", "bars", (DOWN,)),
    ("texts", "floor_read", "text", ("##/##",)), ("texts", "bars_read", "text", ("00d 01d",)),
]
# The refusal due where a thing by this name is none; things of whatever kind, and floors, are looked at by none.
DUE = {
    "length": "NoLength", "across": "NoLength", "down": "NoLength", "high": "NoNumber", "wide": "NoNumber",
    "number": "NoNumber", "filling": "NoBars", "bar": "NoBars", "box": "NoBox", "packing": "NoBars", "rows": "NoBox",
    "columns": "NoNumber", "weights": "NoWeights", "place": "NoTurn", "one": "NoBars", "other": "NoBars",
    "width": "NoNumber", "room": "NoBox", "sorts": "NoSorts", "cells": "NoNumber", "text": "NoText",
}
UNREFUSED = ("thing", "floor", "bars")


def function_of(module, name):
    return getattr(importlib.import_module("barfloors." + module), name)


def spoil(thing):
    """Change every list and dict that is in a thing."""
    if isinstance(thing, (list, tuple)):
        for part in thing:
            spoil(part)
    if isinstance(thing, list):
        thing.append("spoilt")
        thing[0] = None
    if isinstance(thing, dict):
        thing.clear()


def lines_by_trying(sorts, cells):
    """The price of each filling of the line."""
    told = [0] if cells == 0 else []
    for long, price in sorts:
        if long <= cells:
            told += [price + rest for rest in lines_by_trying(sorts, cells - long)]
    return told


class Interface(unittest.TestCase):
    def test_names_and_parameters(self):
        for module, name, parameters, things in INTERFACE:
            told = inspect.signature(function_of(module, name)).parameters
            self.assertEqual(list(told), parameters.split(), name)
            self.assertTrue(all(one.default is inspect.Parameter.empty for one in told.values()), name)

    def test_desk(self):
        self.assertEqual(list(inspect.signature(Desk).parameters), [])
        self.assertEqual(list(inspect.signature(Desk().say).parameters), ["row"])

    def test_lookers_tell_true_or_false(self):
        for module, name, parameters, things in INTERFACE:
            if name.startswith(("is_", "are_", "can_", "has_")) or name == "rises":
                self.assertIn(function_of(module, name)(*things), (True, False))
                self.assertIsInstance(function_of(module, name)(*things), bool)

    def test_errors_stand_straight_under_one(self):
        classes = [thing for thing in vars(errors).values() if inspect.isclass(thing)]
        self.assertEqual(errors.BarError.__bases__, (ValueError,))
        self.assertEqual(sorted(one.__name__ for one in classes), sorted(
            ["BarError", "NoLength", "NoNumber", "NoBars", "NoBox", "NoWeights", "NoSorts", "NoTurn", "NoPlace",
             "NoText", "NoRow", "TooMany"]))
        for one in classes:
            if one is not errors.BarError:
                self.assertEqual(one.__bases__, (errors.BarError,))


class Answers(Asking):
    def test_the_same_asked_again_and_lists_that_are_new(self):
        for module, name, parameters, things in INTERFACE:
            function = function_of(module, name)
            handed = copy.deepcopy(things)
            told = function(*things)
            kept = copy.deepcopy(told)
            spoil(told)
            self.assertEqual(function(*things), kept, name)
            self.assertEqual(repr(things), repr(handed), name)

    def test_what_is_none_is_refused_by_the_class_told(self):
        for module, name, parameters, things in INTERFACE:
            function = function_of(module, name)
            for at, parameter in enumerate(parameters.split()):
                error = self.due(name, parameter)
                wrong = no_lengths() if error is errors.NoLength else odd_things()
                for thing in wrong if error is not None else []:
                    if not (error is errors.NoText and thing == "-"):
                        self.refuses(error, function, *things[:at], thing, *things[at + 1:])

    def due(self, name, parameter):
        if parameter in UNREFUSED:
            return None
        # Both sides of a box that is packed are refused as a box is.
        return getattr(errors, "NoBox" if name == "box_left" and parameter != "length" else DUE[parameter])

    def test_what_stands_further_to_the_left_is_looked_at_first(self):
        for module, name, parameters, things in INTERFACE:
            function = function_of(module, name)
            looked_at = [(at, self.due(name, parameter)) for at, parameter in enumerate(parameters.split())]
            looked_at = [(at, error) for at, error in looked_at if error is not None]
            for (at, error), (behind, _) in itertools.combinations(looked_at, 2):
                for wrong in (None, True, "a", [], {}):
                    handed = list(things)
                    handed[at] = handed[behind] = wrong
                    self.refuses(error, function, *handed)

    def test_lookers_look_at_whatever_is_handed_in(self):
        for module, name, parameters, things in INTERFACE:
            if parameters.endswith("thing"):
                for thing in odd_things():
                    told = function_of(module, name)(*things[:-1], thing)
                    if name == "line_paper_shows":
                        self.assertIsNone(told)
                    else:
                        self.assertIs(told, False)

    def test_too_many_goes_last(self):
        forty = box_floor(5, 8)
        self.refuses(errors.NoLength, many_room_fillings, (5, 5, 5), 6)
        self.refuses(errors.NoLength, function_of("boxes", "can_fill_two"), 8, 8, 2, 6)
        self.refuses(errors.NoLength, function_of("boxes", "filling_of_two"), 8, 8, None, 2)
        self.refuses(errors.NoNumber, box_floor, 8, 9)
        self.refuses(errors.NoBars, way_to, forty, 2, first_filling(forty, 2), ())
        for deed, things, many, most in (
                (box_floor, (8, 8), 64, 40), (all_fillings, (forty, 2), 14824, 1000),
                (lots_of, (forty, 2), 14824, 1000),
                (way_to, (forty, 2, first_filling(forty, 2), first_filling(forty, 2)), 14824, 1000),
                (many_room_fillings, ((5, 5, 1), 2), 25, 24),
                (function_of("rooms", "room_filling"), ((1001, 1, 1), 2), 1001, 1000),
                (function_of("rooms", "is_room_filling"), ((1001, 1, 1), 2, ()), 1001, 1000),
                (function_of("boxes", "can_fill_two"), (8, 6, 2, 2), 48, 40),
                (function_of("boxes", "filling_of_two"), (6, 7, 5, 5), 42, 40)):
            error = self.refuses(errors.TooMany, deed, *things)
            self.assertEqual((error.many, error.most), (many, most))


class Together(unittest.TestCase):
    def floors(self):
        return list(subsets_of_box(3, 3)) + list(subsets_of_box(2, 4)) + some_floors()

    def test_what_can_be_filled(self):
        for floor, length in itertools.product(self.floors(), LENGTHS):
            filling = first_filling(floor, length)
            if filling is not None:
                self.assertEqual(hues(floor, length), [len(filling)] * length)
                self.assertIsNotNone(sums_of(floor, length))
                self.assertIsNone(first_apart(floor, length))
                self.assertTrue(is_signed(floor, length, tuple((bar, 1) for bar in filling)))
                for rows, columns in itertools.product(itertools.combinations(range(length), 2), repeat=2):
                    weights = [[0] * length for _ in range(length)]
                    for row, column in itertools.product((0, 1), repeat=2):
                        weights[rows[row]][columns[column]] = -1 if row == column else 1
                    self.assertEqual(weight_of(floor, length, tuple(tuple(line) for line in weights)), 0)

    def test_either_bars_put_on_and_taken_off_or_weights(self):
        for floor, length in itertools.product(self.floors(), LENGTHS):
            signed = signed_for(floor, length)
            weights = weights_for(floor, length)
            self.assertNotEqual(signed is None, weights is None)
            if signed is None:
                self.assertNotEqual(weight_of(floor, length, weights), 0)
                self.assertEqual(many_fillings(floor, length), 0)
                self.assertTrue(all(weight_of(cells_of(bar, length), length, weights) == 0
                                    for bar in bars_of(floor, length)))
            else:
                self.assertTrue(is_signed(floor, length, signed))

    def test_boxes_are_filled_just_where_the_length_divides_a_side(self):
        for high, wide, length in itertools.product(range(1, 9), range(1, 9), LENGTHS):
            if high * wide <= 40:
                divides = high % length == 0 or wide % length == 0
                self.assertIs(can_fill((high, wide), length), divides)
                self.assertEqual(many_fillings(box_floor(high, wide), length) > 0, divides)
        for room in itertools.product(range(1, 7), repeat=3):
            if room[0] * room[1] * room[2] <= 24:
                for length in LENGTHS:
                    self.assertIs(can_fill(room, length), any(side % length == 0 for side in room))
                    self.assertEqual(many_room_fillings(room, length) > 0, can_fill(room, length))

    def test_what_boxes_leave(self):
        for high, wide, length in itertools.product(range(1, 9), range(1, 9), LENGTHS):
            if high * wide <= 40:
                floor = box_floor(high, wide)
                left = len(left_over(floor, length, most_packing(floor, length)))
                self.assertEqual(box_left(high, wide, length), left)
                if min(high, wide) >= length:
                    one, other = high % length, wide % length
                    self.assertEqual(left, min(one * other, (length - one) * (length - other)))

    def test_turns_lead_from_each_filling_to_each(self):
        for floor, length in itertools.product(self.floors(), LENGTHS):
            many = many_fillings(floor, length)
            if len(pieces(floor)) == 1 and not has_hole(floor) and 1 <= many <= 300:
                fillings = all_fillings(floor, length)
                way = way_to(floor, length, fillings[0], fillings[-1])
                here = fillings[0]
                for place in way:
                    self.assertIn(place, blocks_of(floor, length, here))
                    here = turned(floor, length, here, place)
                self.assertEqual(here, fillings[-1])
                self.assertEqual(lots_of(floor, length), [tuple(range(many))])

    def test_no_line_is_filled_cheaper_than_a_paper_shows_and_one_just_so(self):
        for longs in itertools.combinations((1, 2, 3, 5, 9), 2):
            for prices in itertools.product((0, 2, 5), repeat=2):
                sorts = tuple(zip(longs, prices))
                for cells in range(12):
                    known = lines_by_trying(sorts, cells)
                    paper = line_paper(sorts, cells)
                    self.assertEqual(paper is None, not known)
                    if known:
                        self.assertEqual(line_paper_shows(sorts, cells, paper), min(known))
                        self.assertEqual(cheapest_line(sorts, cells)[0], min(known))

    def test_what_is_told_may_be_handed_in_again(self):
        for floor in self.floors():
            self.assertEqual(floor_read(floor_text(floor)), floor)
            for length in (2, 3):
                packing = most_packing(floor, length)
                self.assertEqual(bars_read(bars_text(packing)), packing)
                self.assertEqual(len(left_over(floor, length, packing)), len(floor) - length * len(packing))
        floor = drawn("####", "#..#", "####")
        for filling in all_fillings(floor, 2):
            self.assertEqual(bars_read(bars_text(filling)), filling)


if __name__ == "__main__":
    unittest.main()
