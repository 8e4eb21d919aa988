"""A term: Rules and sheets on a day, as known on a day."""

from classmarks.errors import MissingPupil
from classmarks.known import known_pages, pupils_among, rules_among, sheet_among
from classmarks.pages import look_at_pages
from classmarks.works import LAST_DAY, look_at_day


def rules_on(works, pages, day, known=LAST_DAY):
    """Tell the Rules on a day as known on a day."""
    look_at_pages(works, pages)
    look_at_day(day)
    look_at_day(known)
    return rules_among(known_pages(pages, known), day)


def sheet_of(works, pages, pupil, day, known=LAST_DAY):
    """Tell a pupil's sheet on a day as known on a day, None where no work has come by then."""
    look_at_pages(works, pages)
    look_at_day(day)
    look_at_day(known)
    told = known_pages(pages, known)
    if pupil not in pupils_among(told):
        raise MissingPupil(pupil)
    return sheet_among(works, told, pupil, day)


def pupils_of(works, pages, known=LAST_DAY):
    """Tell the rising list of the pupils whom known pages tell."""
    look_at_pages(works, pages)
    look_at_day(known)
    return pupils_among(known_pages(pages, known))
