"""The kinds that several modules ask for, and the refusals of what is none of them."""

from barfloors.errors import NoLength, NoNumber

LEAST_LENGTH = 2
MOST_LENGTH = 5
MOST_SIDE = 10 ** 9


def is_whole(thing):
    """Whether the thing is a whole number."""
    # To Python True and False are numbers too; here they are none.
    return isinstance(thing, int) and not isinstance(thing, bool)


def is_whole_within(thing, least, most):
    """Whether the thing is a whole number from least to most."""
    return is_whole(thing) and least <= thing <= most


def are_wholes(thing, least, most):
    """Whether the thing is a tuple of at least so many and at most so many whole numbers."""
    return isinstance(thing, tuple) and least <= len(thing) <= most and all([is_whole(number) for number in thing])


def is_rising(things):
    """Whether each thing of a list or tuple is greater than the one ahead; all are of one kind."""
    return all([things[at - 1] < things[at] for at in range(1, len(things))])


def is_length(thing):
    """Whether the thing is a length."""
    return is_whole_within(thing, LEAST_LENGTH, MOST_LENGTH)


def is_side(thing):
    """Whether the thing is a side of a box."""
    return is_whole_within(thing, 1, MOST_SIDE)


def need_number(thing, least, most):
    """Refuse what is no whole number from least to most."""
    if not is_whole_within(thing, least, most):
        raise NoNumber(f"a whole number from {least} to {most} is wanted")


def need_length(thing):
    """Refuse what is no length."""
    if not is_length(thing):
        raise NoLength(f"a length is a whole number from {LEAST_LENGTH} to {MOST_LENGTH}")
