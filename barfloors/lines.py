"""Lines filled by bars of several lengths with prices, and papers that show how cheap it can be."""

from barfloors.errors import NoSorts
from barfloors.kinds import are_wholes, is_rising, need_number

MOST_SORTS = 4
MOST_LONG = 9
MOST_PRICE = 10 ** 12
MOST_LINE = 200


def is_sort(thing):
    """Whether the thing is a tuple of how long a bar is and its price."""
    return are_wholes(thing, 2, 2) and 1 <= thing[0] <= MOST_LONG and 0 <= thing[1] <= MOST_PRICE


def are_sorts(thing):
    """Whether the thing is sorts."""
    if not isinstance(thing, tuple) or not 1 <= len(thing) <= MOST_SORTS or not all([is_sort(part) for part in thing]):
        return False
    # If the longs by themselves rise, the sorts do too, and no two longs are alike.
    return is_rising([long for long, price in thing])


def need_line(sorts, cells):
    """Refuse what is no sorts, then what is no number of cells of a line."""
    if not are_sorts(sorts):
        raise NoSorts(f"sorts are a rising tuple of one to {MOST_SORTS} tuples of a long and a price")
    need_number(cells, 0, MOST_LINE)


def line_ways(sorts, cells):
    """How many tuples of longs fill the line of so many cells."""
    need_line(sorts, cells)
    ways = [1]
    for many in range(1, cells + 1):
        ways.append(sum([ways[many - long] for long, price in sorts if long <= many]))
    return ways[-1]


def cheapest_lines(sorts, cells):
    """For each number of cells, up to so many, the price and the longs of the cheapest filling, None where none is."""
    lines = [(0, ())]
    for many in range(1, cells + 1):
        # Behind its first bar, a first one of the cheapest is a first one of the cheapest for the cells left.
        firsts = [(long, price, lines[many - long]) for long, price in sorts if long <= many]
        options = [(price + rest[0], (long,) + rest[1]) for long, price, rest in firsts if rest is not None]
        lines.append(min(options, default=None))
    return lines


def cheapest_line(sorts, cells):
    """The price and the longs of the cheapest filling of the line, None where there is none."""
    need_line(sorts, cells)
    return cheapest_lines(sorts, cells)[-1]


def line_paper_shows(sorts, cells, thing):
    """What the thing, of whatever kind, shows of the line, None where it is no line paper."""
    need_line(sorts, cells)
    if not are_wholes(thing, cells, cells):
        return None
    for long, price in sorts:
        if any([sum(thing[first:first + long]) > price for first in range(cells - long + 1)]):
            return None
    return sum(thing)


def line_paper(sorts, cells):
    """Some line paper that shows the price of the cheapest filling of the line, None where there is none."""
    need_line(sorts, cells)
    lines = cheapest_lines(sorts, cells)
    if lines[-1] is None:
        return None
    # Each stretch shows how much dearer its end is than its beginning: a bar there makes that up at most. Ends that no
    # bars reach count as dear as any, so that no stretch from one of them rises.
    dearest = max([line[0] for line in lines if line is not None])
    prices = [dearest if line is None else line[0] for line in lines]
    return tuple([prices[at + 1] - prices[at] for at in range(cells)])
