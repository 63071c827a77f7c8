"""Fillings of a floor: how many there are, which stands at which number, and those with a bar."""

from barfloors.bars import first_open, is_bar, is_within, steps_of
from barfloors.errors import NoBars, TooMany
from barfloors.kinds import need_length, need_number
from barfloors.most import is_packing

MOST_LISTED = 1000


def is_filling(floor, length, thing):
    """Whether the thing, of whatever kind, is a filling of the floor by bars of the length."""
    return is_packing(floor, length, thing) and len(thing) * length == len(floor)


def need_filling(floor, length, thing):
    """Refuse what is no filling of the floor by bars of the length."""
    if not is_filling(floor, length, thing):
        raise NoBars("a filling of the floor is wanted")


def need_listed(many):
    """Refuse more fillings than are listed."""
    if many > MOST_LISTED:
        raise TooMany(many, MOST_LISTED)


class Ways:
    """The ways to cover all cells by one bar behind the other, each from the first open cell on.

    The steps are, for each cell in order, the rising list of the bars that begin there, each with the lot of cells
    that it covers. So bars are laid in rising order, and the ways are ordered as the fillings are. Lots of covered
    cells that are met by several ways are kept once, with how many ways lead to them, and how many from them to
    fillings.
    """

    def __init__(self, steps):
        self.steps = steps
        self.full = (1 << len(steps)) - 1
        self.layers = []
        self.onward = {self.full: 1}
        self.count_to()
        self.count_onward()

    def next_of(self, lot):
        """The list of the bars by which the first open cell can be covered, each with the lot behind it."""
        if lot == self.full:
            return []
        return [(bar, lot | cells) for bar, cells in self.steps[first_open(lot)] if not lot & cells]

    def count_to(self):
        """Count the ways to each lot, a layer for the lots of as many bars."""
        layer = {0: 1}
        while layer:
            self.layers.append(layer)
            layer = self.layer_behind(layer)

    def layer_behind(self, layer):
        """The lots that one bar more makes of those of a layer, each with how many ways lead to it."""
        behind = {}
        for lot, many in layer.items():
            for bar, larger in self.next_of(lot):
                behind[larger] = behind.get(larger, 0) + many
        return behind

    def count_onward(self):
        """Count the ways from each lot to fillings."""
        for layer in reversed(self.layers):
            for lot in layer:
                if lot != self.full:
                    self.onward[lot] = sum([self.onward[larger] for bar, larger in self.next_of(lot)])

    def how_many(self):
        """How many fillings there are."""
        return self.onward[0]

    def filling_behind(self, number):
        """The filling that so many go ahead of; there are more than so many."""
        bars = []
        lot = 0
        while lot != self.full:
            for bar, larger in self.next_of(lot):
                if number < self.onward[larger]:
                    bars.append(bar)
                    lot = larger
                    break
                number -= self.onward[larger]
        return tuple(bars)

    def many_ahead(self, filling):
        """How many fillings go ahead of a filling."""
        many = 0
        lot = 0
        for laid in filling:
            for bar, larger in self.next_of(lot):
                if bar == laid:
                    lot = larger
                    break
                many += self.onward[larger]
        return many

    def counts_of_bars(self):
        """A dict with, for each bar within the floor, how many fillings have it."""
        counts = {bar: 0 for bars in self.steps for bar, cells in bars}
        for layer in self.layers:
            for lot, many in layer.items():
                for bar, larger in self.next_of(lot):
                    counts[bar] += many * self.onward[larger]
        return counts


def ways_of(floor, length):
    """The ways to cover the floor by bars of the length."""
    return Ways(steps_of(floor, length))


def many_fillings(floor, length):
    """How many fillings of the floor by bars of the length there are."""
    return ways_of(floor, length).how_many()


def first_filling(floor, length):
    """The first filling, None where there is none."""
    ways = ways_of(floor, length)
    if ways.how_many() == 0:
        return None
    return ways.filling_behind(0)


def filling_at(floor, length, number):
    """The filling of the number."""
    ways = ways_of(floor, length)
    need_number(number, 0, ways.how_many() - 1)
    return ways.filling_behind(number)


def number_of(floor, length, filling):
    """The number of the filling."""
    need_filling(floor, length, filling)
    return ways_of(floor, length).many_ahead(filling)


def all_fillings(floor, length):
    """The rising list of all fillings, where there are not too many."""
    ways = ways_of(floor, length)
    many = ways.how_many()
    need_listed(many)
    return [ways.filling_behind(number) for number in range(many)]


def bar_counts(floor, length):
    """A dict with, for each bar within the floor, how many fillings have it."""
    return ways_of(floor, length).counts_of_bars()


def many_with(floor, length, bar):
    """How many fillings have the bar."""
    need_length(length)
    if not is_bar(bar) or not is_within(floor, bar, length):
        raise NoBars("a bar within the floor is wanted")
    return bar_counts(floor, length)[bar]
