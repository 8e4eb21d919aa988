"""What pages that are known tell of rules and of pupils."""

from classmarks.pages import EXCUSE, RULE
from classmarks.rules import Rules
from classmarks.scores import EXCUSED, MOST_TRIES
from classmarks.sheets import Sheet


def known_pages(pages, known):
    """Tell the rising list of the pages that are told by a day, each once."""
    return sorted({page for page in pages if page[0] <= known})


def pupils_among(pages):
    """Tell the rising list of the pupils whom these pages tell."""
    return sorted({deed[1] for told, deed in pages if deed[0] != RULE})


def value_among(pages, name, day, usual):
    """Tell the value that a rule has on a day by these pages, the usual one where none of them tells it."""
    found = [(deed[1], told, deed[3]) for told, deed in pages
             if deed[0] == RULE and deed[2] == name and deed[1] <= day]
    return max(found)[2] if len(found) > 0 else usual


def rules_among(pages, day):
    """Tell the Rules on a day by these pages."""
    usual = Rules()
    return Rules(value_among(pages, "drop", day, usual.drop), value_among(pages, "cut", day, usual.cut),
                 value_among(pages, "second", day, usual.second))


def result_among(pages, pupil, number, day):
    """Tell a pupil's result of the work of this number on a day by these pages."""
    deeds = [deed for told, deed in pages if deed[0] != RULE and deed[1] == pupil and deed[2] == number]
    if (EXCUSE, pupil, number) in deeds:
        return EXCUSED
    # Two pages may tell the same try on two days: these are two tries.
    tries = sorted([(tried, points) for word, who, work, points, tried in deeds if tried <= day])
    if len(tries) == 0:
        return None
    return tuple([(points, tried) for tried, points in tries[-MOST_TRIES:]])


def sheet_among(works, pages, pupil, day):
    """Tell a pupil's sheet on a day by these pages, None where no work has come by then."""
    due = tuple([work for work in works if work[0] <= day])
    if len(due) == 0:
        return None
    rules = tuple([rules_among(pages, work[0]) for work in due])
    results = tuple([result_among(pages, pupil, number, day) for number in range(len(due))])
    return Sheet(due, rules, results, rules_among(pages, day).drop)


def mark_among(works, pages, pupil, day):
    """Tell a pupil's mark on a day by these pages, None where there is none."""
    if pupil not in pupils_among(pages):
        return None
    sheet = sheet_among(works, pages, pupil, day)
    return None if sheet is None else sheet.mark()
