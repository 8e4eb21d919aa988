import copy
import itertools
import random
import unittest

from classmarks.errors import NoPages, NoText, NoWorks
from classmarks.rules import Rules
from classmarks.texts import pages_text, read_pages
from tests.odd_things import odd_things
from tests.plain_term import any_page, many_terms
from tests.test_pages import GOOD_PAGES, WORKS, bad_pages
from tests.test_works import bad_works

PAGES = ((3, ("rule", 0, "cut", 10)), (4, ("rule", 2, "second", "last")), (9, ("excuse", "ann", 1)),
         (9, ("try", "ann", 0, 7, 8)))
LINES = ("3 rule 0 cut 10", "4 rule 2 second last", "9 excuse ann 1", "9 try ann 0 7 8")


def excuses(many):
    """Tell so many pages and their lines."""
    pages = tuple([(day, ("excuse", "ann", 0)) for day in range(many)])
    return pages, [f"{day} excuse ann 0" for day in range(many)]


def bad_lines():
    """Tell a new list of lines that write no page of WORKS."""
    bad = []
    for line in LINES + ("0 rule 0 drop 0", "200 try z 2 100 200"):
        words = line.split(" ")
        # Blanks, tabs and line ends where none stand, or several of them.
        bad += [line + end for end in (" ", "  ", "\t", "\r", " 1", " x", "\n")]
        bad += [ahead + line for ahead in (" ", "\t", "\n", "0", "+", "-", "1 ")]
        bad += [line.replace(" ", between, 1) for between in ("  ", "\t", "", "\n", " \t", "_", ",")]
        bad += [line[::-1], line.upper(), line[1:], line + line, f"({line})", f"'{line}'"]
        for at in range(len(words)):
            # A word less, a word twice, a word without signs, another word, and numbers otherwise written.
            bad += [words[:at] + words[at + 1:], words[:at] + [words[at]] + words[at:], words[:at] + [""] + words[at + 1:]]
            bad += [words[:at] + [word] + words[at + 1:] for word in (
                "?", "None", "True", "()", "x1", "-1", "+1", "01", "00", "0x1", "1.0", "1_0", "1e1", " 1", "One",
                "9" * 30, "9" * 31, "1" + "0" * 30, "0" * 31, "9" * 600, "ANN", "Rule", "annannann")]
    bad = [line if isinstance(line, str) else " ".join(line) for line in bad]
    bad += ["201 rule 0 cut 10", "3 rule 201 cut 10", "3 rule 0 cut 101", "3 rule 0 drop 6", "3 rule 0 second first",
            "3 rule 0 cut last", "3 rule 0 second 1", "3 rule 0 second 0", "3 rule 0 drop best", "3 rule 0 rule 1",
            "9 try ann 0 11 8", "9 try ann 3 7 8", "9 try ann 0 7 201", "9 excuse ann 3", "9 excuse 1 ann", "9 excuse 7 1",
            "9 try 7 0 7 8", "", " ", "\t", "9", "9 ", "9 rule", "9 excuse", "9 try", "try ann 0 7 8", "9 excused ann 1"]
    return bad


class PagesText(unittest.TestCase):
    def test_as_the_document_shows_it(self):
        for page, line in zip(PAGES, LINES):
            self.assertEqual(pages_text(WORKS, (page,)), line)
        self.assertEqual(pages_text(WORKS, PAGES), "\n".join(LINES))

    def test_of_none(self):
        self.assertEqual(pages_text(WORKS, ()), "")

    def test_rising_and_each_once(self):
        for order in itertools.permutations(PAGES):
            self.assertEqual(pages_text(WORKS, order), "\n".join(LINES))
            self.assertEqual(pages_text(WORKS, order + order[:3] + order), "\n".join(LINES))
        self.assertEqual(pages_text(WORKS, (PAGES[0],) * 40), LINES[0])

    def test_rising_as_pages_not_as_texts(self):
        pages = ((10, ("excuse", "b", 1)), (9, ("excuse", "b", 1)), (10, ("excuse", "ab", 2)), (10, ("try", "a", 1, 9, 10)),
                 (10, ("try", "a", 1, 10, 9)), (10, ("rule", 100, "cut", 1)), (10, ("rule", 20, "drop", 1)))
        self.assertEqual(pages_text(WORKS, pages), "\n".join([
            "9 excuse b 1", "10 excuse ab 2", "10 excuse b 1", "10 rule 20 drop 1", "10 rule 100 cut 1",
            "10 try a 1 9 10", "10 try a 1 10 9"]))

    def test_numbers(self):
        self.assertEqual(pages_text(WORKS, ((0, ("try", "a", 0, 0, 0)), (200, ("try", "zzzzzzzz", 2, 100, 200)))),
                         "0 try a 0 0 0\n200 try zzzzzzzz 2 100 200")

    def test_the_same_text_however_the_pages_stand(self):
        chance = random.Random(100)
        for works, pages in many_terms(20, 100, 20):
            mixed = list(pages) * 2
            chance.shuffle(mixed)
            self.assertEqual(pages_text(works, tuple(mixed)), pages_text(works, pages))


class ReadPages(unittest.TestCase):
    def test_each_deed_written_and_read_back(self):
        for page in GOOD_PAGES:
            self.assertEqual(read_pages(WORKS, pages_text(WORKS, (page,))), (page,))
        self.assertEqual(read_pages(WORKS, pages_text(WORKS, GOOD_PAGES)), tuple(sorted(set(GOOD_PAGES))))

    def test_as_the_document_shows_it(self):
        for page, line in zip(PAGES, LINES):
            self.assertEqual(read_pages(WORKS, line), (page,))
        self.assertEqual(read_pages(WORKS, "\n".join(LINES)), PAGES)

    def test_the_text_without_signs(self):
        self.assertEqual(read_pages(WORKS, ""), ())
        self.assertIs(type(read_pages(WORKS, "")), tuple)

    def test_back_and_forth_for_many(self):
        for works, pages in many_terms(60, 101):
            text = pages_text(works, pages)
            told = read_pages(works, text)
            self.assertEqual(told, tuple(sorted(set(pages))))
            self.assertEqual(pages_text(works, told), text)

    def test_forty_lines(self):
        pages, lines = excuses(40)
        self.assertEqual(read_pages(WORKS, "\n".join(lines)), pages)

    def test_kinds(self):
        for thing in read_pages(WORKS, "\n".join(LINES)):
            self.assertEqual([type(part) for part in (thing,) + thing], [tuple, int, tuple])
        self.assertEqual([type(part) for part in read_pages(WORKS, LINES[3])[0][1]], [str, str, int, int, int])
        self.assertEqual([type(part) for part in read_pages(WORKS, LINES[1])[0][1]], [str, int, str, str])


class NoTextTold(unittest.TestCase):
    def check(self, text, row, works=WORKS):
        for by_name in (False, True):
            with self.assertRaises(NoText) as seen:
                if by_name:
                    read_pages(text=text, works=works)
                else:
                    read_pages(works, text)
            self.assertEqual((seen.exception.row, type(seen.exception.row)), (row, int), text)

    def test_a_line_bent_in_any_way(self):
        for line in bad_lines():
            bent = line.split("\n")
            if len(bent) == 1:
                if line != "":
                    self.check(line, 1)
                self.check("0 excuse ann 0\n" + line, 2)
                self.check("0 excuse ann 0\n" + line + "\n200 excuse ann 0", 2)

    def test_line_ends_where_none_stand(self):
        for line in LINES:
            self.check("\n" + line, 1)
            self.check(line + "\n", 2)
            self.check(line + "\n\n", 2)
            self.check(line.replace(" ", "\n", 1), 1)
            self.check(line + "\r\n200 excuse ann 0", 1)
        self.check("\n", 1)
        self.check("\n\n\n", 1)
        self.check("\n".join(LINES) + "\n", 5)
        self.check("\n\n".join(LINES), 2)

    def test_each_row(self):
        pages, lines = excuses(40)
        for row in range(1, 41):
            for bad in ("", "x", "9 excuse ann 7", lines[row - 1] + " "):
                self.check("\n".join(lines[:row - 1] + [bad] + lines[row:]), row)
            # The first one of two.
            self.check("\n".join(lines[:row - 1] + ["x", "y"] + lines[row:]), row)

    def test_lines_exchanged(self):
        for at in range(3):
            lines = list(LINES)
            lines[at], lines[at + 1] = lines[at + 1], lines[at]
            self.check("\n".join(lines), at + 2)
        self.check("\n".join(LINES[::-1]), 2)
        self.check("10 excuse ann 0\n9 excuse ann 0", 2)
        # Rising as texts, but not as pages.
        self.check("9 excuse ann 0\n9 rule 10 cut 1\n9 rule 9 cut 1", 3)

    def test_lines_twice(self):
        for at in range(4):
            self.check("\n".join(LINES[:at + 1] + LINES[at:]), at + 2)
        self.check("\n".join(LINES + LINES), 5)

    def test_forty_one_lines(self):
        pages, lines = excuses(60)
        for many in (41, 42, 60):
            self.check("\n".join(lines[:many]), 41)
        # Whatever the line more is.
        for more in ("", "x", lines[0], lines[39]):
            self.check("\n".join(lines[:40] + [more]), 41)

    def test_more_lines_and_one_of_these_ahead(self):
        pages, lines = excuses(60)
        for row in (1, 2, 20, 39, 40):
            self.check("\n".join(lines[:row - 1] + ["x"] + lines[row:]), row)
        self.check("\n".join(lines[:5] + [lines[4]] + lines[5:]), 6)
        self.check("\n" * 60, 1)

    def test_what_is_no_text(self):
        for thing in odd_things() + [0, 1, True, list(LINES), tuple(LINES), PAGES, PAGES[0], Rules(), {LINES[0]: 1}]:
            if not isinstance(thing, str):
                self.check(thing, 0)

    def test_texts_of_anything(self):
        for thing in odd_things():
            if isinstance(thing, str) and thing != "":
                self.check(thing, 1)
        self.check(" " * 2000, 1)
        self.check("9" * 2000, 1)
        self.check("\t", 1)

    def test_a_page_of_other_works(self):
        one = ((10, 10, False),)
        self.assertEqual(read_pages(one, "9 try ann 0 10 8"), ((9, ("try", "ann", 0, 10, 8)),))
        for line in ("9 try ann 0 11 8", "9 try ann 1 1 8", "9 excuse ann 1"):
            self.assertEqual(len(read_pages(((10, 11, False),) * 2, line)), 1)
            self.check(line, 1, one)

    def test_what_is_read_is_just_what_is_written(self):
        # Each text that is read writes its pages in just these signs.
        chance = random.Random(102)
        for works, pages in many_terms(60, 102, 5):
            text = pages_text(works, pages)
            for again in range(20):
                at = chance.randint(0, len(text))
                bent = text[:at] + chance.choice(" \n\t019az") * chance.randint(0, 1) + text[at + chance.randint(0, 1):]
                try:
                    told = read_pages(works, bent)
                except NoText as error:
                    self.assertTrue(1 <= error.row <= bent.count("\n") + 1)
                else:
                    self.assertEqual(pages_text(works, told), bent)


class Refused(unittest.TestCase):
    def check(self, kind, ask, given):
        with self.assertRaises(kind):
            ask(*given.values())
        with self.assertRaises(kind):
            ask(**dict(list(given.items())[::-1]))

    def test_no_works(self):
        for bad in odd_things() + [(work,) for work in bad_works()] + [WORKS[::-1], list(WORKS), WORKS[0], Rules()]:
            for more in (PAGES, [PAGES]):
                self.check(NoWorks, pages_text, {"works": bad, "pages": more})
            for more in (LINES[0], "", "x", 0, None):
                self.check(NoWorks, read_pages, {"works": bad, "text": more})

    def test_no_pages(self):
        for bad in [(bad,) for bad in bad_pages()] + [list(PAGES), PAGES[0], PAGES * 11, LINES, "", LINES[0], None, 0, {}]:
            self.check(NoPages, pages_text, {"works": WORKS, "pages": bad})

    def test_what_is_handed_in_is_left_as_it_was(self):
        for thing in ([1, [2]], ([1],), {"a": [1]}, list(PAGES)):
            before = copy.deepcopy(thing)
            self.check(NoWorks, pages_text, {"works": thing, "pages": PAGES})
            self.check(NoPages, pages_text, {"works": WORKS, "pages": thing})
            self.check(NoText, read_pages, {"works": WORKS, "text": thing})
            self.assertEqual(thing, before)


class Handed(unittest.TestCase):
    def test_by_name_in_any_order(self):
        self.assertEqual(pages_text(works=WORKS, pages=PAGES[:1]), LINES[0])
        self.assertEqual(pages_text(pages=PAGES[:1], works=WORKS), LINES[0])
        self.assertEqual(read_pages(works=WORKS, text=LINES[0]), PAGES[:1])
        self.assertEqual(read_pages(text=LINES[0], works=WORKS), PAGES[:1])

    def test_told_the_same_again(self):
        chance = random.Random(103)
        pages = tuple([any_page(chance, WORKS) for each in range(30)])
        before = copy.deepcopy(pages)
        texts = [pages_text(WORKS, pages) for again in range(2)]
        self.assertEqual(texts[0], texts[1])
        self.assertEqual(read_pages(WORKS, texts[0]), read_pages(WORKS, texts[0]))
        self.assertEqual(pages, before)

    def test_defined_in_its_file(self):
        for thing in (pages_text, read_pages):
            self.assertEqual(thing.__module__, "classmarks.texts")


if __name__ == "__main__":
    unittest.main()
