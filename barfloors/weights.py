"""Weights by which each bar weighs nothing, and what a floor weighs by them."""

from barfloors.errors import NoWeights
from barfloors.kinds import are_wholes, need_length
from barfloors.rests import first_apart


def are_weights(length, thing):
    """Whether the thing, of whatever kind, is weights of the length."""
    need_length(length)
    if not isinstance(thing, tuple) or len(thing) != length:
        return False
    if not all([are_wholes(line, length, length) for line in thing]):
        return False
    if not all([sum(line) == 0 for line in thing]):
        return False
    return all([sum([line[at] for line in thing]) == 0 for at in range(length)])


def weight_of(floor, length, weights):
    """What the floor weighs by the weights."""
    if not are_weights(length, weights):
        raise NoWeights(f"weights are {length} tuples of {length} whole numbers, each line of them coming to 0")
    return sum([weights[row % length][column % length] for row, column in floor])


def weights_for(floor, length):
    """Some weights by which the floor does not weigh 0, None where there are none."""
    apart = first_apart(floor, length)
    if apart is None:
        return None
    # Where the rests are apart, neither rest is 0: so four different places bear 1, -1, -1 and 1.
    row_rest, column_rest = apart
    lines = [[0] * length for line in range(length)]
    lines[0][0] = lines[row_rest][column_rest] = 1
    lines[0][column_rest] = lines[row_rest][0] = -1
    return tuple([tuple(line) for line in lines])
