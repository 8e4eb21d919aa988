"""Works: what pupils hand in tries for."""

from classmarks.errors import NoDay, NoWorks
from classmarks.tuples import has_parts, never_falls
from classmarks.whole import is_whole_in

LAST_DAY = 200
MOST_POINTS = 100
MOST_WORKS = 12


def is_day(thing):
    """Tell of anything whether it is a day."""
    return is_whole_in(thing, 0, LAST_DAY)


def is_work(thing):
    """Tell of anything whether it is a work, a tuple (day, most, extra)."""
    if not has_parts(thing, 3, 3):
        return False
    day, most, extra = thing
    return is_day(day) and is_whole_in(most, 1, MOST_POINTS) and isinstance(extra, bool)


def are_works(thing):
    """Tell of anything whether it is works, a tuple of them by their days."""
    if not has_parts(thing, 1, MOST_WORKS) or not all([is_work(part) for part in thing]):
        return False
    return never_falls([work[0] for work in thing])


def look_at_day(day):
    """Refuse what is no day."""
    if not is_day(day):
        raise NoDay("what stands in the place of a day is none")


def look_at_works(works):
    """Refuse what is no works."""
    if not are_works(works):
        raise NoWorks("what stands in the place of works is none")
