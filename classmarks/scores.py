"""Scores: the points that tries of a work bring."""

from classmarks.errors import NoResult, NoRules, NoWork
from classmarks.rules import Rules
from classmarks.tuples import has_parts, never_falls
from classmarks.whole import is_whole_in
from classmarks.works import is_day, is_work

EXCUSED = "excused"
MOST_TRIES = 3


def late_points(points, days, cut=0):
    """Tell what is left of points that are late so many days."""
    return max(0, points - points * cut * days // 100)


def is_try(work, thing):
    """Tell of anything whether it is a try of this work, a tuple (points, day)."""
    if not has_parts(thing, 2, 2):
        return False
    points, day = thing
    return is_whole_in(points, 0, work[1]) and is_day(day)


def are_tries(work, thing):
    """Tell of anything whether it is a tuple of tries of this work by their days."""
    if not has_parts(thing, 1, MOST_TRIES) or not all([is_try(work, part) for part in thing]):
        return False
    return never_falls([day for points, day in thing])


def is_result(work, thing):
    """Tell of anything whether it is a result of this work."""
    if not is_work(work):
        raise NoWork("what stands in the place of a work is none")
    if isinstance(thing, str):
        return thing == EXCUSED
    return thing is None or are_tries(work, thing)


def score(work, rules, result):
    """Tell the points that a result of this work brings, None where it is excused."""
    if not is_work(work):
        raise NoWork("what stands in the place of a work is none")
    if not isinstance(rules, Rules):
        raise NoRules("what stands in the place of Rules is none")
    if not is_result(work, result):
        raise NoResult("what stands in the place of a result of this work is none")
    if result is None:
        return 0
    if result == EXCUSED:
        return None
    return counted_of(rules, [late_points(points, max(0, day - work[0]), rules.cut) for points, day in result])


def counted_of(rules, points):
    """Tell what counts of the points of several tries."""
    if rules.second == "best":
        return max(points)
    if rules.second == "last":
        return points[-1]
    return sum(points) // len(points)
