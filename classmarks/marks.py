"""Marks: shares of points by most points, kept without any rounding."""

from classmarks.errors import NoMark
from classmarks.whole import is_whole_from

HUNDREDTHS = 100


def lowest_terms(points, most):
    """Tell both numbers without what they have in common."""
    common, rest = most, points
    while rest > 0:
        common, rest = rest, common % rest
    return points // common, most // common


class Mark:
    """So many points by so many at most."""

    def __init__(self, points, most=100):
        if not is_whole_from(points, 0):
            raise NoMark("the points of a mark are a whole number from 0 on")
        if not is_whole_from(most, 1):
            raise NoMark("the most of a mark is a whole number from 1 on")
        self.points = points
        self.most = most

    def __eq__(self, other):
        return isinstance(other, Mark) and self.points * other.most == other.points * self.most

    def __str__(self):
        return "/".join([str(part) for part in lowest_terms(self.points, self.most)])

    def __repr__(self):
        return f"Mark({self.points}, {self.most})"


def is_above(one, other):
    """Tell whether the first mark's share is the greater one."""
    if not isinstance(one, Mark) or not isinstance(other, Mark):
        raise NoMark("what stands in the place of a mark is none")
    return one.points * other.most > other.points * one.most


def ranked(marks):
    """Tell the numbers of the marks, the greatest share first, of equal ones the lesser number."""
    if not isinstance(marks, list) or not all([isinstance(mark, Mark) for mark in marks]):
        raise NoMark("what stands in the place of a list of marks is none")
    most = max([mark.most for mark in marks], default=1)
    # Unlike shares are 1 by most times most apart at least: as many times as great, their whole parts are unlike, too.
    falling = [(-(mark.points * most * most // mark.most), number) for number, mark in enumerate(marks)]
    return [number for share, number in sorted(falling)]
