"""A desk: it keeps pages and answers lines."""

from classmarks.errors import NoDeed, NoLine, NoText, There, TooMany
from classmarks.moves import moved_by
from classmarks.needs import needed
from classmarks.pages import MOST_PAGES
from classmarks.scales import at_border, letter_of, look_at_scale
from classmarks.terms import pupils_of, rules_on, sheet_of
from classmarks.texts import is_number, page_of, pages_text
from classmarks.works import LAST_DAY, look_at_day, look_at_works

NONE = "none"
DONE = "ok"


def listed(names):
    """Tell names with blanks between."""
    return " ".join(names) if len(names) > 0 else NONE


def kept_by(desk):
    """Tell the pages that a desk keeps."""
    return tuple(desk.pages)


def page_for(desk, text):
    """Tell the page that a text writes for a desk."""
    page = page_of(desk.works, text)
    if page is None:
        raise NoText(1)
    return page


def sheet_by(desk, pupil, day, known):
    """Tell a pupil's sheet by a desk's pages, None where there is none."""
    return sheet_of(desk.works, kept_by(desk), pupil, day, known)


def mark_by(desk, pupil, day, known):
    """Tell a pupil's mark by a desk's pages, None where there is none."""
    sheet = sheet_by(desk, pupil, day, known)
    return None if sheet is None else sheet.mark()


def answer_tell(desk, text):
    """Keep a page more."""
    page = page_for(desk, text)
    if page in desk.pages:
        raise There("this page is kept already")
    if len(desk.pages) >= MOST_PAGES:
        raise TooMany(len(desk.pages) + 1, MOST_PAGES)
    desk.pages.append(page)
    return DONE


def answer_undo(desk):
    """Take away the last page that was told and stands."""
    if len(desk.pages) == 0:
        raise NoDeed("no page that was told stands")
    desk.pages.pop()
    return DONE


def answer_count(desk):
    """Answer how many pages are kept."""
    return str(len(desk.pages))


def answer_pages(desk):
    """Answer the text of the pages."""
    return pages_text(desk.works, kept_by(desk)) if len(desk.pages) > 0 else NONE


def answer_pupils(desk):
    """Answer whom the pages tell."""
    return listed(pupils_of(desk.works, kept_by(desk)))


def answer_rules(desk, day, known):
    """Answer the Rules on a day as known on a day."""
    return repr(rules_on(desk.works, kept_by(desk), day, known))


def answer_mark(desk, pupil, day, known):
    """Answer a pupil's mark."""
    mark = mark_by(desk, pupil, day, known)
    return NONE if mark is None else str(mark)


def answer_letter(desk, pupil, day, known):
    """Answer the letter of a pupil's mark, with a sign behind it where the mark stands at a border."""
    mark = mark_by(desk, pupil, day, known)
    if mark is None:
        return NONE
    return letter_of(mark, desk.scale) + ("!" if at_border(mark, desk.scale) else "")


def answer_steps(desk, pupil, day, known):
    """Answer the steps of a pupil's sheet."""
    sheet = sheet_by(desk, pupil, day, known)
    return NONE if sheet is None else str(sheet)


def answer_need(desk, pupil, day, known, bound):
    """Answer how many points a pupil needs at least for a bound."""
    # Without this look a day that is none would be told behind a missing pupil.
    look_at_day(day)
    told = needed(sheet_by(desk, pupil, LAST_DAY, known), day, bound)
    return NONE if told is None else str(told[0])


def answer_moves(desk, text):
    """Answer whose mark a page more moves."""
    page = page_for(desk, text)
    return listed([pupil for pupil, before, after in moved_by(desk.works, kept_by(desk), page)])


# What stands behind each word but those with a page.
FORMS = {
    "undo": (),
    "count": (),
    "pages": (),
    "pupils": (),
    "rules": ("number", "number"),
    "mark": ("pupil", "number", "number"),
    "letter": ("pupil", "number", "number"),
    "steps": ("pupil", "number", "number"),
    "need": ("pupil", "number", "number", "number"),
}
WITH_PAGE = ("tell", "moves")
ANSWERS = {
    "tell": answer_tell,
    "undo": answer_undo,
    "count": answer_count,
    "pages": answer_pages,
    "pupils": answer_pupils,
    "rules": answer_rules,
    "mark": answer_mark,
    "letter": answer_letter,
    "steps": answer_steps,
    "need": answer_need,
    "moves": answer_moves,
}


def fits(kind, word):
    """Tell whether a word can stand where this kind of word is due."""
    return is_number(word) if kind == "number" else len(word) > 0


def given_by(line):
    """Tell the first word of a line, and the list of what it hands in."""
    if not isinstance(line, str):
        raise NoLine("what is told a desk is no text")
    word, *words = line.split(" ")
    if word in WITH_PAGE and len(words) > 0:
        return word, [" ".join(words)]
    form = FORMS.get(word)
    if form is None or len(form) != len(words) or not all([fits(kind, each) for kind, each in zip(form, words)]):
        raise NoLine("what is told a desk has no form of a line")
    return word, [int(each) if kind == "number" else each for kind, each in zip(form, words)]


class Desk:
    """Works, a scale and pages, about which lines ask."""

    def __init__(self, works, scale):
        look_at_works(works)
        look_at_scale(scale)
        self.works = works
        self.scale = scale
        self.pages = []

    def say(self, line):
        """Tell the answer to a line."""
        word, given = given_by(line)
        answer = ANSWERS[word]
        return answer(self, *given)
