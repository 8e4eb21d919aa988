"""Two Rules: where they give unlike points, and by which names they part."""

from classmarks.drops import many_kept
from classmarks.errors import NoBound, NoRules
from classmarks.rules import Rules
from classmarks.scores import late_points
from classmarks.whole import is_whole_in
from classmarks.works import LAST_DAY, MOST_POINTS, MOST_WORKS


def look_at_both(one, other):
    """Refuse what is no Rules."""
    if not isinstance(one, Rules) or not isinstance(other, Rules):
        raise NoRules("what stands in the place of Rules is none")


def look_at_bound(bound, most):
    """Refuse what is no whole number from 1 to the most."""
    if not is_whole_in(bound, 1, most):
        raise NoBound(f"this bound is a whole number from 1 to {most}")


def first_parting(cut, other, most):
    """Tell the first (points, days) at which two cuts leave unlike points, None where they never do."""
    for points in range(most + 1):
        for days in range(LAST_DAY + 1):
            if late_points(points, days, cut) != late_points(points, days, other):
                return points, days
    return None


def first_unlike(one, other, most=MOST_POINTS):
    """Tell the first (points, days) at which two Rules give unlike points, None where they never do."""
    look_at_both(one, other)
    look_at_bound(most, MOST_POINTS)
    return first_parting(one.cut, other.cut, most)


def parted_by(one, other, many=MOST_WORKS, most=MOST_POINTS):
    """Tell the names by which two Rules part for so many works of this most."""
    look_at_both(one, other)
    look_at_bound(many, MOST_WORKS)
    look_at_bound(most, MOST_POINTS)
    names = []
    if first_parting(one.cut, other.cut, most) is not None:
        names.append("cut")
    if many_kept(many, one.drop) != many_kept(many, other.drop):
        names.append("drop")
    if one.second != other.second:
        names.append("second")
    return tuple(names)
