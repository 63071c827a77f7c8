"""Ways of turns from one filling to another, and the lots of fillings that such ways join."""

from barfloors.fillings import all_fillings, many_fillings, need_filling, need_listed
from barfloors.turns import blocks_in, turn_at


def add_turned(ways, layer, length):
    """Add the fillings that one turn more makes of those of a layer to the ways, and tell the list of the new ones."""
    behind = []
    for filling in layer:
        for place in blocks_in(filling, length):
            other = turn_at(filling, length, place)
            if other not in ways:
                ways[other] = ways[filling] + [place]
                behind.append(other)
    return behind


def ways_from(one, length):
    """A dict with, for each filling to which turns lead from one, some shortest list of places to turn it at."""
    ways = {one: []}
    layer = [one]
    # Layer by layer, so that each filling is met first by as few turns as can be.
    while layer:
        layer = add_turned(ways, layer, length)
    return ways


def way_to(floor, length, one, other):
    """Some shortest list of places at which one, turned, comes to the other, None where no turns lead there."""
    need_filling(floor, length, one)
    need_filling(floor, length, other)
    need_listed(many_fillings(floor, length))
    return ways_from(one, length).get(other)


def lots_of(floor, length):
    """The list of the lots, each the rising tuple of its fillings' numbers, by their least ones."""
    fillings = all_fillings(floor, length)
    numbers = {filling: number for number, filling in enumerate(fillings)}
    seen = set()
    lots = []
    # Fillings rise, so each lot is met first at its least number.
    for filling in fillings:
        if numbers[filling] not in seen:
            lot = sorted([numbers[member] for member in ways_from(filling, length)])
            lots.append(tuple(lot))
            for number in lot:
                seen.add(number)
    return lots
