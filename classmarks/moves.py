"""Moves: whose mark a page moves, and who overtakes whom."""

from classmarks.errors import NoPage, TooMany
from classmarks.known import known_pages, mark_among, pupils_among
from classmarks.marks import is_above
from classmarks.pages import MOST_PAGES, is_page, look_at_pages
from classmarks.works import LAST_DAY, look_at_day


def moved_by(works, pages, page, day=LAST_DAY):
    """Tell the list of (pupil, before, after) of all whose mark on a day is another one with a page more."""
    look_at_pages(works, pages)
    if not is_page(works, page):
        raise NoPage("what stands in the place of a page is none")
    if len(pages) >= MOST_PAGES:
        raise TooMany(len(pages) + 1, MOST_PAGES)
    look_at_day(day)
    without, with_it = known_pages(pages, LAST_DAY), known_pages((*pages, page), LAST_DAY)
    moved = []
    for pupil in pupils_among(with_it):
        before, after = mark_among(works, without, pupil, day), mark_among(works, with_it, pupil, day)
        if before != after:
            moved.append((pupil, before, after))
    return moved


def is_over(one, other):
    """Tell whether a mark, or None, is above another one; None is above nothing."""
    if one is None:
        return False
    return other is None or is_above(one, other)


def marks_among(works, pages, day):
    """Tell the mark on a day of each pupil whom these pages tell."""
    return {pupil: mark_among(works, pages, pupil, day) for pupil in pupils_among(pages)}


def overtakings(works, pages, known=LAST_DAY):
    """Tell the rising list of (day, pupil, other), who overtakes whom on which day of the works."""
    look_at_pages(works, pages)
    look_at_day(known)
    told = known_pages(pages, known)
    pupils = pupils_among(told)
    first, *days = sorted({work[0] for work in works})
    found = []
    before = marks_among(works, told, first)
    for day in days:
        after = marks_among(works, told, day)
        found.extend([(day, one, other) for one in pupils for other in pupils
                      if is_over(after[one], after[other]) and not is_over(before[one], before[other])])
        before = after
    return found
