"""Texts: pages as they are written, and read again."""

from classmarks.errors import NoText
from classmarks.pages import MOST_PAGES, is_page, look_at_pages
from classmarks.works import look_at_works

FIGURES = "0123456789"
MOST_FIGURES = 30


def is_number(word):
    """Tell whether a word writes a number, in figures and without a nought ahead but 0 itself."""
    if not 1 <= len(word) <= MOST_FIGURES or not all([sign in FIGURES for sign in word]):
        return False
    return word == "0" or word[0] != "0"


def part_of(word):
    """Tell the part of a page that a word writes, a number or the word itself."""
    return int(word) if is_number(word) else word


def page_of(works, line):
    """Tell the page that a line writes, None where it writes none."""
    told, *deed = [part_of(word) for word in line.split(" ")]
    page = (told, tuple(deed))
    return page if is_page(works, page) else None


def page_text(page):
    """Tell a page as it is written."""
    told, deed = page
    return " ".join([str(part) for part in (told, *deed)])


def pages_text(works, pages):
    """Tell the text of pages, rising and each once."""
    look_at_pages(works, pages)
    return "\n".join([page_text(page) for page in sorted(set(pages))])


def read_pages(works, text):
    """Tell the pages that a text writes."""
    look_at_works(works)
    if not isinstance(text, str):
        raise NoText(0)
    if text == "":
        return ()
    pages = []
    for row, line in enumerate(text.split("\n"), start=1):
        page = page_of(works, line)
        if page is None or row > MOST_PAGES or (row > 1 and page <= pages[-1]):
            raise NoText(row)
        pages.append(page)
    return tuple(pages)
