"""Whole numbers."""


def is_whole_from(thing, least):
    """Tell of anything whether it is a whole number from the least on."""
    # Python counts truths among its ints.
    return isinstance(thing, int) and not isinstance(thing, bool) and least <= thing


def is_whole_in(thing, least, most):
    """Tell of anything whether it is a whole number from the least to the most."""
    return is_whole_from(thing, least) and thing <= most
