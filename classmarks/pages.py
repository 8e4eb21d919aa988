"""Pages: what is told of rules, tries and excuses, and on which day."""

from classmarks.errors import NoPages
from classmarks.rules import is_value
from classmarks.scores import is_try
from classmarks.tuples import has_parts
from classmarks.whole import is_whole_in
from classmarks.works import is_day, look_at_works

MOST_PAGES = 40
MOST_SIGNS = 8
RULE = "rule"
TRY = "try"
EXCUSE = "excuse"


def is_pupil(thing):
    """Tell of anything whether it is a pupil, a text of one to eight signs from a to z."""
    if not isinstance(thing, str) or not 1 <= len(thing) <= MOST_SIGNS:
        return False
    return all(["a" <= sign <= "z" for sign in thing])


def is_number_of(works, thing):
    """Tell of anything whether it is the number of one of these works."""
    return is_whole_in(thing, 0, len(works) - 1)


def is_rule_deed(thing):
    """Tell of anything whether it is a deed ("rule", day, name, value)."""
    if not has_parts(thing, 4, 4):
        return False
    word, day, name, value = thing
    return word == RULE and is_day(day) and is_value(name, value)


def is_try_deed(works, thing):
    """Tell of anything whether it is a deed ("try", pupil, number, points, day) for these works."""
    if not has_parts(thing, 5, 5):
        return False
    word, pupil, number, points, day = thing
    if word != TRY or not is_pupil(pupil) or not is_number_of(works, number):
        return False
    return is_try(works[number], (points, day))


def is_excuse_deed(works, thing):
    """Tell of anything whether it is a deed ("excuse", pupil, number) for these works."""
    if not has_parts(thing, 3, 3):
        return False
    word, pupil, number = thing
    return word == EXCUSE and is_pupil(pupil) and is_number_of(works, number)


def is_page(works, thing):
    """Tell of anything whether it is a page of these works, a tuple (told, deed)."""
    if not has_parts(thing, 2, 2):
        return False
    told, deed = thing
    return is_day(told) and (is_rule_deed(deed) or is_try_deed(works, deed) or is_excuse_deed(works, deed))


def are_pages(works, thing):
    """Tell of anything whether it is pages of these works, a tuple of them in any order."""
    look_at_works(works)
    return has_parts(thing, 0, MOST_PAGES) and all([is_page(works, part) for part in thing])


def look_at_pages(works, pages):
    """Refuse what is no works, or no pages of them."""
    if not are_pages(works, pages):
        raise NoPages("what stands in the place of pages is none")
