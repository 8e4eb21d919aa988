"""Tuples: how many parts they have and how their numbers go on."""


def has_parts(thing, least, most):
    """Tell of anything whether it is a tuple of so many parts."""
    return isinstance(thing, tuple) and least <= len(thing) <= most


def never_falls(numbers):
    """Tell whether no number is lesser than the one ahead."""
    return list(numbers) == sorted(numbers)


def is_rising(numbers):
    """Tell whether each number is greater than the one ahead."""
    return list(numbers) == sorted(set(numbers))
