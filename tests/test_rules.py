import itertools
import unittest
from fractions import Fraction

from barfloors.errors import NoLength, NoNumber
from barfloors.rules import is_rule, rule_of
from barfloors.strips import strip_counts
from tests.things import FORTY_FIGURES, LENGTHS, Asking, no_lengths, odd_things, strips_by_cells

WIDTHS = (1, 2, 3, 4)
PAIRS = list(itertools.product(WIDTHS, LENGTHS))
# Where no bar goes down, each row is filled by itself: one filling for each multiple of the length.
RULES = {(width, length): (0,) * (length - 1) + (1,) for width, length in PAIRS if width < length}
RULES |= {(2, 2): (1, 1), (3, 2): (0, 4, 0, -1), (3, 3): (1, 0, 1), (4, 2): (1, 5, 1, -1),
          (4, 3): (0, 0, 5, 0, 0, -3, 0, 0, 1), (4, 4): (1, 0, 0, 1)}


def rows_of(counts, many):
    """For each count with so many ahead of it, these, backwards, and it."""
    return [[Fraction(count) for count in counts[at - many:at][::-1] + [counts[at]]] for at in range(many, len(counts))]


def has_rule_of(counts, many):
    """Whether there are so many numbers, whole or not, that are a rule of the counts: by plain elimination."""
    rows = rows_of(counts, many)
    for column in range(many):
        head = next((row for row in rows if row[column] != 0), None)
        if head is not None:
            rest = [row for row in rows if row is not head]
            rows = [[one - row[column] / head[column] * other for one, other in zip(row, head)] for row in rest]
    # A row of noughts ahead of a number that is none contradicts.
    return all(row[many] == 0 for row in rows)


def holds(rule, counts):
    return all(sum(number * counts[at - 1 - back] for back, number in enumerate(rule)) == counts[at]
               for at in range(len(rule), len(counts)))


def longer(rule, factor):
    """The rule of what the first rule makes nought, taken times a factor that begins with 1."""
    first = [1] + [-number for number in rule]
    told = [0] * (len(first) + len(factor) - 1)
    for one, other in itertools.product(range(len(first)), range(len(factor))):
        told[one + other] += first[one] * factor[other]
    return tuple(-number for number in told[1:])


class Shortest(Asking):
    def test_all_widths_and_lengths(self):
        self.assertEqual(sorted(RULES), PAIRS)
        for (width, length), rule in RULES.items():
            self.assertEqual(rule_of(width, length), rule)
            self.assertIs(is_rule(width, length, rule), True)

    def test_it_holds_up_to_two_hundred_columns(self):
        for width, length in PAIRS:
            counts = strip_counts(width, length, 200)
            self.assertEqual(counts[200], strips_by_cells(width, length, 200))
            self.assertTrue(holds(rule_of(width, length), counts))

    def test_no_shorter_rule_is_one(self):
        for width, length in PAIRS:
            counts = strip_counts(width, length, 60)
            many = len(rule_of(width, length))
            self.assertTrue(has_rule_of(counts, many))
            for fewer in range(1, many):
                self.assertFalse(has_rule_of(counts, fewer))

    def test_kinds(self):
        for width, length in PAIRS:
            rule = rule_of(width, length)
            self.assertIsInstance(rule, tuple)
            self.assertTrue(all(number.__class__ is int for number in rule))


class IsRule(Asking):
    def yes(self, width, length, thing):
        self.assertIs(is_rule(width, length, thing), True, thing)

    def no(self, width, length, thing):
        self.assertIs(is_rule(width, length, thing), False, thing)

    def test_longer_ones_than_the_shortest(self):
        self.yes(2, 2, (0, 2, 1))
        self.yes(2, 2, (2, 0, -1))
        self.yes(2, 2, (1, 1, 0))
        for (width, length), rule in RULES.items():
            for factor in ([1, 0], [1, 1], [1, -1], [1, 0, 0, 7], [1, 2, -5, FORTY_FIGURES // 100]):
                self.yes(width, length, longer(rule, factor))

    def test_forty_numbers_and_one_more(self):
        for (width, length), rule in RULES.items():
            for end in (0, 1, -3):
                factor = [1] + [0] * (39 - len(rule)) + [end]
                self.assertEqual(len(longer(rule, factor)), 40)
                self.yes(width, length, longer(rule, factor))
                self.no(width, length, longer(rule, factor + [0]))
                self.no(width, length, longer(rule, [1, 0] + factor[1:]))

    def test_rules_of_one_number(self):
        for width, length in PAIRS:
            for number in range(-3, 6):
                self.no(width, length, (number,))
        self.no(2, 2, (FORTY_FIGURES,))

    def test_a_number_changed(self):
        for (width, length), rule in RULES.items():
            for at in range(len(rule)):
                for change in (1, -1, FORTY_FIGURES // 10):
                    self.no(width, length, rule[:at] + (rule[at] + change,) + rule[at + 1:])
            self.no(width, length, rule[:-1])
            self.no(width, length, rule[1:])
            self.no(width, length, (0,) + rule)
            self.no(width, length, rule[::-1] + (1,))

    def test_rules_of_other_widths_and_lengths(self):
        for one, other in itertools.product(RULES, repeat=2):
            self.assertIs(is_rule(*one, RULES[other]), holds(RULES[other], strip_counts(*one, 200)))
        self.no(2, 2, RULES[4, 4])
        self.no(4, 3, RULES[4, 2])
        self.yes(1, 2, RULES[1, 4])
        self.no(1, 4, RULES[1, 2])

    def test_just_what_holds_by_hand(self):
        for width, length in PAIRS:
            counts = strip_counts(width, length, 200)
            for rule in itertools.product((-1, 0, 1, 2), repeat=3):
                self.assertIs(is_rule(width, length, rule), holds(rule, counts))

    def test_what_holds_for_the_last_columns_or_the_first_ones_alone(self):
        # From two columns on the next one is 0 times the one ahead, but for the one of as many columns as the rule.
        counts = strip_counts(1, 5, 200)
        self.assertEqual(counts[:7], [1, 0, 0, 0, 0, 1, 0])
        self.no(1, 5, (0, 0, 0, 0))
        self.no(1, 5, (0, 0, 0, 0, 0))
        self.yes(1, 5, (0, 0, 0, 0, 1, 0))
        # These numbers are right up to 39 columns, and wrong at 40 first.
        self.no(1, 5, (0,) * 39 + (2,))
        self.yes(1, 5, (0,) * 39 + (1,))

    def test_lists_truths_and_other_parts(self):
        for thing in ([1, 1], (True, True), (1, True), (1, "1"), (1, None), ("1", "1"), (1, (1,)), ((1, 1),), (), 1,
                      "11", {1: 1}, (1, [1]), (1, 1, False)):
            self.no(2, 2, thing)
        for thing in ((0, True), (False, 1), [0, 1]):
            self.no(1, 2, thing)

    def test_things_of_every_other_kind(self):
        things = odd_things()
        for width, length in ((1, 2), (4, 3)):
            for thing in things:
                self.no(width, length, thing)
        self.assertEqual(repr(things), repr(odd_things()))


class Refusals(Asking):
    def test_what_is_no_width(self):
        for width in [0, 5, -1, 200, (), (1,), [1], "1", {1: 1}] + odd_things():
            self.refuses(NoNumber, rule_of, width, 2)
            for thing in ((1, 1), None):
                self.refuses(NoNumber, is_rule, width, 2, thing)

    def test_what_is_no_length(self):
        for length in no_lengths():
            self.refuses(NoLength, rule_of, 2, length)
            for thing in ((1, 1), None):
                self.refuses(NoLength, is_rule, 2, length, thing)

    def test_the_order_of_refusals(self):
        for width in (0, 5, None, True, FORTY_FIGURES):
            for length in (1, 6, None, True):
                self.refuses(NoNumber, rule_of, width, length)
                self.refuses(NoNumber, is_rule, width, length, (1, 1))


if __name__ == "__main__":
    unittest.main()
