"""Whole numbers: what all other modules ask of a number that is handed in."""


def is_whole(thing):
    """Whether it is a whole number, of anything."""
    # To Python True and False are ints, too; as numbers they are refused.
    return isinstance(thing, int) and not isinstance(thing, bool)


def is_within(thing, least, most):
    """Whether it is a whole number from least to most, of anything."""
    return is_whole(thing) and least <= thing <= most
