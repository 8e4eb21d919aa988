"""Whole numbers."""


def is_whole_in(thing, least, most):
    """Tell of anything whether it is a whole number from the least to the most."""
    # Python counts truths among its ints.
    return isinstance(thing, int) and not isinstance(thing, bool) and least <= thing <= most
