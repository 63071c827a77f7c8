"""Rules by which the numbers of fillings of strips follow from those ahead of them."""

from barfloors.kinds import are_wholes
from barfloors.strips import MOST_COLUMNS, strip_counts

MOST_NUMBERS = 40


def come_to(numbers, counts, at):
    """What the numbers, each times one of the counts, from that at a place on backwards, come to together."""
    return sum([number * counts[at - back] for back, number in enumerate(numbers)])


def is_rule(width, length, thing):
    """Whether the thing, of whatever kind, is a rule of the width and the length."""
    counts = strip_counts(width, length, MOST_COLUMNS)
    if not are_wholes(thing, 1, MOST_NUMBERS):
        return False
    return all([come_to(thing, counts, at - 1) == counts[at] for at in range(len(thing), len(counts))])


def common_divisor(numbers):
    """The greatest number that divides all of the numbers; not all of them are 0."""
    told = 0
    for number in numbers:
        other = abs(number)
        while other != 0:
            told, other = other, told % other
    return told


def mended(numbers, gap, old, old_gap, back):
    """So many times the numbers less so many times the old ones, moved back, that both gaps take each other away."""
    many = max(len(numbers), back + len(old))
    kept = numbers + [0] * (many - len(numbers))
    taken = [0] * back + old + [0] * (many - back - len(old))
    told = [old_gap * kept[at] - gap * taken[at] for at in range(many)]
    # Else they would grow with each step; only how they stand to one another counts.
    divisor = common_divisor(told)
    return [number // divisor for number in told]


def shortest_numbers(counts):
    """The fewest numbers that come to 0 from each place on backwards that has as many counts.

    This is the way of Berlekamp and Massey, kept to whole numbers. Wherever the numbers so far leave a gap, they are
    mended by the last ones that were shorter, moved back from this gap to theirs, which changes nothing ahead of it.
    """
    numbers = [1]
    old = [1]
    old_gap = 1
    back = 0
    for at in range(len(counts)):
        gap = come_to(numbers, counts, at)
        back += 1
        if gap != 0:
            better = mended(numbers, gap, old, old_gap, back)
            if len(better) > len(numbers):
                old, old_gap, back = numbers, gap, 0
            numbers = better
    return numbers


def rule_of(width, length):
    """The shortest rule of the width and the length."""
    numbers = shortest_numbers(strip_counts(width, length, MOST_COLUMNS))
    # The first number divides the others: what follows from counts of fillings is whole.
    return tuple([-number // numbers[0] for number in numbers[1:]])
