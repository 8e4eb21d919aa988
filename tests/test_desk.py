import copy
import itertools
import random
import unittest

from classmarks.desk import Desk
from classmarks.errors import (
    ClassError, MissingPupil, NoBound, NoDay, NoDeed, NoLine, NoScale, NoText, NoWorks, There, TooMany)
from classmarks.moves import moved_by
from classmarks.needs import needed
from classmarks.rules import Rules
from classmarks.scales import at_border, letter_of
from classmarks.terms import rules_on, sheet_of
from classmarks.texts import pages_text, read_pages
from tests.odd_things import odd_things
from tests.plain_term import many_terms, plain_pupils
from tests.test_scales import bad_scales
from tests.test_texts import bad_lines
from tests.test_works import bad_works

WORKS = ((10, 10, False), (20, 20, True), (30, 100, False))
SCALE = (("A", 90), ("B", 50), ("F", 0))
LINES = ("9 try ann 0 5 9", "9 try bob 0 10 12", "3 rule 0 cut 10", "25 excuse ann 2")
ASKED = ("count", "pages", "pupils", "rules 30 200", "rules 30 5", "mark ann 30 200", "letter ann 30 200",
         "steps ann 30 200", "need ann 0 200 50", "moves 5 excuse cid 0", "mark bob 10 9", "letter zoe 0 0", "undo now")


def made(lines=LINES, works=WORKS, scale=SCALE):
    """Tell a desk that was told these pages."""
    desk = Desk(works, scale)
    for line in lines:
        desk.say("tell " + line)
    return desk


def answers(desk, lines=ASKED):
    """Tell what a desk answers to each line, or how it refuses it."""
    told = []
    for line in lines:
        try:
            told.append(desk.say(line))
        except (ClassError, MissingPupil) as error:
            told.append((type(error), vars(error)))
    return told


def forty(many=40):
    """Tell the lines of so many pages, each of another pupil."""
    return ["9 try p" + chr(97 + at // 26) + chr(97 + at % 26) + " 0 5 9" for at in range(many)]


def pages_by(lines):
    """Tell the pages that these lines write, in their order."""
    return tuple([read_pages(WORKS, line)[0] for line in lines])


class Tells(unittest.TestCase):
    def test_each_deed(self):
        desk = Desk(WORKS, SCALE)
        for at, line in enumerate(LINES):
            self.assertEqual(desk.say("tell " + line), "ok")
            self.assertEqual(desk.say("count"), str(at + 1))
        self.assertEqual(desk.say("pages"), "\n".join([LINES[2], LINES[0], LINES[1], LINES[3]]))

    def test_no_text(self):
        desk = made()
        before = answers(desk)
        for line in bad_lines() + ["", " ", LINES[0] + "\n" + LINES[1], "3 rule 0 cut 10\n4 rule 0 cut 10"]:
            for word in ("tell ", "moves "):
                with self.assertRaises(NoText) as seen:
                    desk.say(word + line)
                self.assertEqual(seen.exception.row, 1)
        self.assertEqual(answers(desk), before)

    def test_there(self):
        desk = made()
        for line in LINES:
            with self.assertRaises(There):
                desk.say("tell " + line)
        self.assertEqual(desk.say("count"), "4")
        self.assertEqual(desk.say("tell 10 try ann 0 5 9"), "ok")

    def test_forty_pages_and_one_more(self):
        desk = made(forty())
        self.assertEqual(desk.say("count"), "40")
        for line in ("9 try ann 0 5 9", "0 rule 0 drop 1", "0 excuse paa 2"):
            with self.assertRaises(TooMany) as seen:
                desk.say("tell " + line)
            self.assertEqual((seen.exception.many, seen.exception.most), (41, 40))
            with self.assertRaises(TooMany) as seen:
                desk.say("moves " + line)
            self.assertEqual((seen.exception.many, seen.exception.most), (41, 40))
        # What is kept is told ahead of what are too many, but a page that moves would be one more.
        with self.assertRaises(There):
            desk.say("tell " + forty()[7])
        with self.assertRaises(TooMany):
            desk.say("moves " + forty()[7])
        with self.assertRaises(NoText):
            desk.say("tell x")
        with self.assertRaises(NoText):
            desk.say("moves x")
        self.assertEqual(desk.say("count"), "40")
        self.assertEqual(desk.say("undo"), "ok")
        self.assertEqual(desk.say("moves " + forty()[39]), forty()[39].split(" ")[2])
        self.assertEqual(desk.say("tell 9 try ann 0 5 9"), "ok")
        self.assertEqual(desk.say("count"), "40")


class Undoes(unittest.TestCase):
    def test_the_last_that_was_told_and_stands(self):
        desk = made()
        for left in (3, 2, 1):
            self.assertEqual(desk.say("undo"), "ok")
            self.assertEqual(desk.say("count"), str(left))
            self.assertEqual(desk.say("pages"), pages_text(WORKS, pages_by(LINES[:left])))
        self.assertEqual(desk.say("undo"), "ok")
        self.assertEqual(desk.say("pages"), "none")

    def test_tell_undo_tell_again(self):
        desk = made(LINES[:2])
        before = answers(desk)
        self.assertEqual([desk.say(line) for line in ("tell " + LINES[2], "undo", "tell " + LINES[2], "undo")], ["ok"] * 4)
        self.assertEqual(answers(desk), before)
        # Behind an undo the one told ahead of it is the last.
        for line in ("tell " + LINES[2], "tell " + LINES[3], "undo", "tell 4 rule 0 drop 1", "undo", "undo"):
            self.assertEqual(desk.say(line), "ok")
        self.assertEqual(answers(desk), before)

    def test_what_was_refused_is_no_deed(self):
        desk = made(LINES[:1])
        for line in ("tell " + LINES[0], "tell x", "mark zoe 1 1", "undo 1", "nothing"):
            with self.assertRaises((ClassError, MissingPupil)):
                desk.say(line)
        self.assertEqual(desk.say("undo"), "ok")
        self.assertEqual(desk.say("count"), "0")

    def test_no_deed(self):
        desk = Desk(WORKS, SCALE)
        for again in range(2):
            with self.assertRaises(NoDeed):
                desk.say("undo")
        desk.say("tell " + LINES[0])
        desk.say("undo")
        with self.assertRaises(NoDeed):
            desk.say("undo")
        self.assertEqual(desk.say("tell " + LINES[0]), "ok")


class Answers(unittest.TestCase):
    def test_count_pages_and_pupils_of_none(self):
        desk = Desk(WORKS, SCALE)
        self.assertEqual([desk.say(line) for line in ("count", "pages", "pupils")], ["0", "none", "none"])
        desk.say("tell " + LINES[2])
        self.assertEqual([desk.say(line) for line in ("count", "pages", "pupils")], ["1", LINES[2], "none"])

    def test_pupils(self):
        desk = made(("9 excuse z 0", "200 try bob 2 1 200", "9 excuse ab 0", "9 excuse z 1"))
        self.assertEqual(desk.say("pupils"), "ab bob z")

    def test_rules(self):
        desk = made()
        self.assertEqual(desk.say("rules 0 3"), "Rules(drop=0, cut=10, second=best)")
        self.assertEqual(desk.say("rules 0 2"), "Rules(drop=0, cut=0, second=best)")
        self.assertEqual(Desk(WORKS, SCALE).say("rules 200 200"), "Rules(drop=0, cut=0, second=best)")
        desk = made(("5 rule 7 second mean", "9 rule 8 drop 5"))
        self.assertEqual([desk.say(f"rules {day} {known}") for day, known in ((6, 200), (7, 4), (7, 5), (8, 8), (8, 9))], [
            "Rules(drop=0, cut=0, second=best)", "Rules(drop=0, cut=0, second=best)", "Rules(drop=0, cut=0, second=mean)",
            "Rules(drop=0, cut=0, second=mean)", "Rules(drop=5, cut=0, second=mean)"])

    def test_mark(self):
        desk = made()
        self.assertEqual(desk.say("mark ann 10 200"), "1/2")
        self.assertEqual(desk.say("mark bob 12 200"), "4/5")
        self.assertEqual(desk.say("mark bob 12 9"), "4/5")
        self.assertEqual(desk.say("mark bob 11 9"), "0/1")
        self.assertEqual(desk.say("mark bob 30 200"), "4/55")
        self.assertEqual(desk.say("mark ann 30 24"), "1/22")
        self.assertEqual(desk.say("mark ann 30 25"), "1/2")
        self.assertEqual(desk.say("mark ann 9 200"), "none")
        # A sheet, but no mark of it.
        self.assertEqual(made(("9 excuse ann 0",)).say("mark ann 10 200"), "none")

    def test_letter(self):
        desk = made()
        self.assertEqual(desk.say("letter ann 10 200"), "B!")
        self.assertEqual(desk.say("letter bob 12 200"), "B")
        self.assertEqual(desk.say("letter bob 11 200"), "F")
        self.assertEqual(desk.say("letter ann 9 200"), "none")
        self.assertEqual(made(("9 excuse ann 0",)).say("letter ann 10 200"), "none")
        self.assertEqual(made(("9 try ann 0 9 9",)).say("letter ann 10 200"), "A!")
        self.assertEqual(made(("9 try ann 0 10 9",)).say("letter ann 10 200"), "A")
        self.assertEqual(made(("9 try ann 0 0 9",)).say("letter ann 10 200"), "F")
        self.assertEqual(made(("9 try ann 0 10 9",), WORKS, (("Q", 100), ("Z", 0))).say("letter ann 10 200"), "Q!")

    def test_steps(self):
        desk = made()
        self.assertEqual(desk.say("steps ann 30 200"), "0:kept:5/10 1:extra:0/20 2:excused")
        self.assertEqual(desk.say("steps ann 30 24"), "0:kept:5/10 1:extra:0/20 2:kept:0/100")
        self.assertEqual(desk.say("steps bob 12 200"), "0:kept:8/10")
        self.assertEqual(desk.say("steps ann 9 200"), "none")
        self.assertEqual(made(("9 excuse ann 0",)).say("steps ann 10 200"), "0:excused")

    def test_need(self):
        desk = made()
        # 110 points at most: 5 of work 0 are there, up to 20 of the extra one and 100 of the last.
        self.assertEqual(desk.say("need ann 10 24 50"), "50")
        self.assertEqual(desk.say("need ann 10 200 50"), "0")
        self.assertEqual(desk.say("need ann 10 200 60"), "1")
        self.assertEqual(desk.say("need ann 20 200 60"), "none")
        self.assertEqual(desk.say("need ann 20 200 50"), "0")
        self.assertEqual(desk.say("need ann 0 24 100"), "105")
        self.assertEqual(desk.say("need ann 29 24 100"), "none")
        self.assertEqual(desk.say("need ann 29 24 95"), "100")
        self.assertEqual(desk.say("need ann 200 24 0"), "0")
        # The sheet is that of day 200, though the day is ahead of all works.
        self.assertEqual(made(("9 try ann 2 60 150",)).say("need ann 0 9 60"), "6")
        self.assertEqual(made(("9 excuse ann 0", "9 excuse ann 2")).say("need ann 0 200 0"), "none")

    def test_moves(self):
        desk = made()
        self.assertEqual(desk.say("moves 3 rule 0 drop 1"), "bob")
        self.assertEqual(desk.say("moves 3 rule 0 cut 20"), "bob")
        self.assertEqual(desk.say("moves 9 try cid 0 5 9"), "cid")
        self.assertEqual(desk.say("moves 9 try ann 1 5 9"), "ann")
        self.assertEqual(desk.say("moves 9 try ann 2 5 9"), "none")
        for line in LINES:
            self.assertEqual(desk.say("moves " + line), "none")
        self.assertEqual(made(("9 try z 0 5 9", "9 try ab 0 7 9")).say("moves 3 rule 0 drop 1"), "ab z")
        self.assertEqual(desk.say("count"), "4")
        self.assertEqual(desk.say("pupils"), "ann bob")

    def test_as_the_rest_of_the_program_tells_it(self):
        chance = random.Random(110)
        for works, pages in many_terms(25, 110, 30):
            told = tuple(sorted(set(pages), key=lambda page: chance.random()))
            desk = made([pages_text(works, (page,)) for page in told], works)
            self.assertEqual(desk.say("count"), str(len(told)))
            self.assertEqual(desk.say("pages"), pages_text(works, pages) or "none")
            self.assertEqual(desk.say("pupils"), " ".join(plain_pupils(pages)) or "none")
            for day, known, bound in ((0, 30, 0), (20, 200, 50), (60, 70, 80), (200, 200, 100)):
                self.assertEqual(desk.say(f"rules {day} {known}"), repr(rules_on(works, pages, day, known)))
                for pupil in plain_pupils(pages, known):
                    sheet = sheet_of(works, pages, pupil, day, known)
                    mark = None if sheet is None else sheet.mark()
                    self.assertEqual(desk.say(f"mark {pupil} {day} {known}"), "none" if mark is None else str(mark))
                    letter = "none" if mark is None else letter_of(mark, SCALE) + "!" * at_border(mark, SCALE)
                    self.assertEqual(desk.say(f"letter {pupil} {day} {known}"), letter)
                    self.assertEqual(desk.say(f"steps {pupil} {day} {known}"), "none" if sheet is None else str(sheet))
                    need = needed(sheet_of(works, pages, pupil, 200, known), day, bound)
                    self.assertEqual(desk.say(f"need {pupil} {day} {known} {bound}"), "none" if need is None else str(need[0]))
            for page in ((3, ("rule", 0, "drop", 2)), (3, ("rule", 0, "cut", 50)), (4, ("excuse", "ann", 0))):
                moved = moved_by(works, told, page)
                self.assertEqual(desk.say("moves " + pages_text(works, (page,))), " ".join([each[0] for each in moved]) or "none")

    def test_texts(self):
        for answer in answers(made()):
            self.assertIn(type(answer), (str, tuple))


class Refused(unittest.TestCase):
    def check(self, kind, line, desk=None):
        desk = desk or made()
        before = answers(desk)
        with self.assertRaises(kind) as seen:
            desk.say(line)
        # What is refused changes nothing.
        self.assertEqual(answers(desk), before)
        return seen.exception

    def test_what_is_no_text(self):
        desk = made()
        for bad in odd_things() + [0, 1, True, ["count"], ("count",), {"count": 1}, b"count", Rules(), desk]:
            if not isinstance(bad, str):
                self.check(NoLine, bad, desk)
                with self.assertRaises(NoLine):
                    desk.say(line=bad)

    def test_other_words(self):
        desk = made()
        for bad in odd_things():
            if isinstance(bad, str):
                self.check(NoLine, bad, desk)
        for line in ("", " ", "\n", "\t", "none", "ok", "Count", "COUNT", "counts", "coun", "telling x", "TELL " + LINES[0],
                     "Tell " + LINES[0], "move " + LINES[0], LINES[0], "marks ann 1 1", "sheet ann 1 1", "need! ann 1 1 1"):
            self.check(NoLine, line, desk)

    def test_words_too_many_and_too_few(self):
        desk = made()
        for line in ("count", "pages", "pupils", "undo", "rules 1 1", "mark ann 1 1", "letter ann 1 1", "steps ann 1 1",
                     "need ann 1 1 1"):
            words = line.split(" ")
            for many in range(1, len(words)):
                self.check(NoLine, " ".join(words[:many]), desk)
            self.check(NoLine, line + " 1", desk)
            self.check(NoLine, line + " 1 1", desk)
            self.check(NoLine, line + " ann", desk)
        self.check(NoLine, "tell", desk)
        self.check(NoLine, "moves", desk)

    def test_blanks_tabs_and_line_ends(self):
        desk = made()
        for line in ("count", "pages", "pupils", "undo", "rules 1 1", "mark ann 1 1", "letter ann 1 1", "steps ann 1 1",
                     "need ann 1 1 1", "tell 9 excuse ann 0", "moves 9 excuse ann 0"):
            for bent in (" " + line, "\t" + line, "\n" + line, line.replace(" ", "\t", 1), line.replace(" ", "\n", 1)):
                if bent != line:
                    self.check(NoLine, bent, desk)
            if line.split(" ")[0] not in ("tell", "moves"):
                for bent in (line + " ", line + "\t", line + "\n", line + "  ", line.replace(" ", "  "),
                             line.replace(" ", " \t"), line.replace(" ", "  ", 1)):
                    if bent != line:
                        self.check(NoLine, bent, desk)

    def test_a_pupil_without_signs(self):
        desk = made()
        for line in ("mark  1 1", "letter  1 1", "steps  1 1", "need  1 1 1", "mark  201 1", "mark   1", "mark   "):
            self.check(NoLine, line, desk)

    def test_within_a_page_any_signs_may_stand(self):
        desk = made()
        for rest in ("", " ", "  9 excuse ann 0", " 9 excuse ann 0", "9 excuse ann 0 ", "9  excuse ann 0", "9\texcuse ann 0",
                     "9 excuse ann 0\n", "\n", "x", "9 excuse", "09 excuse ann 0", "9" * 31 + " excuse ann 0",
                     "9 excuse ann 3", "201 excuse ann 0", "9 EXCUSE ann 0"):
            for word in ("tell ", "moves "):
                self.assertEqual(self.check(NoText, word + rest, desk).row, 1)

    def test_numbers(self):
        desk = made()
        for bad in ("01", "00", "007", "+1", "-1", "-0", "1.0", "1_0", "0x1", "1e1", "one", "x", "1x", "x1", "1\t", "\t1", "1\n",
                    "", "9" * 31, "1" + "0" * 30, "0" * 30, "9" * 1900, "ann", "None", "True", "!", "~", "1,1", "1/2"):
            for form in ("rules ? 1", "rules 1 ?", "rules ? ?", "mark ann ? 1", "mark ann 1 ?", "letter ann ? 1",
                         "letter ann 1 ?", "steps ann ? 1", "steps ann 1 ?", "need ann ? 1 1", "need ann 1 ? 1",
                         "need ann 1 1 ?", "need zoe 1 1 ?", "mark ? 201 01", "need ann 201 201 ?"):
                if bad != "" or "mark ?" not in form:
                    self.check(NoLine, form.replace("?", bad), desk)

    def test_numbers_of_thirty_figures(self):
        desk = made()
        self.check(NoDay, "rules " + "9" * 30 + " 1", desk)
        self.check(NoDay, "rules 1 " + "1" + "0" * 29, desk)
        self.check(NoBound, "need ann 1 200 " + "9" * 30, desk)
        self.check(NoLine, "need ann 1 200 " + "9" * 31, desk)

    def test_no_day(self):
        desk = made()
        for bad in ("201", "999", "9" * 30):
            for form in ("rules ? 1", "rules 1 ?", "rules ? ?", "mark ann ? 200", "mark ann 1 ?", "letter ann ? 200",
                         "letter ann 1 ?", "steps ann ? 200", "steps ann 1 ?", "need ann ? 200 1", "need ann 1 ? 1"):
                self.check(NoDay, form.replace("?", bad), desk)
                # Behind the days only: whom no page tells, and what is no bound.
                self.check(NoDay, form.replace("?", bad).replace("ann", "zoe"), desk)
                if form.startswith("need"):
                    self.check(NoDay, form.replace("?", bad).replace("ann", "zoe")[:-1] + "101", desk)
                    self.check(NoDay, form.replace("?", bad)[:-1] + "101", desk)

    def test_missing_pupil(self):
        desk = made()
        for bad in ("zoe", "an", "annn", "Ann", "ANN", "1", "01", "-", "ann\t", "a\nn", "annannann", "none", "x" * 500, "~"):
            for form in ("mark ? 0 0", "letter ? 30 200", "steps ? 200 200", "need ? 0 200 50", "need ? 0 200 101"):
                self.assertEqual(self.check(MissingPupil, form.replace("?", bad), desk).pupil, bad)
        # Known by page only, as of these days.
        self.assertEqual(self.check(MissingPupil, "mark ann 30 8", desk).pupil, "ann")
        self.assertEqual(self.check(MissingPupil, "need ann 0 8 101", desk).pupil, "ann")
        self.assertEqual(self.check(MissingPupil, "steps ann 0 0", desk).pupil, "ann")
        self.assertEqual(desk.say("mark ann 0 9"), "none")

    def test_no_bound_last(self):
        desk = made()
        for bad in ("101", "200", "9" * 30):
            self.check(NoBound, "need ann 0 200 " + bad, desk)
            self.check(NoBound, "need ann 200 200 " + bad, desk)
            self.check(NoDay, "need ann 201 200 " + bad, desk)
            self.check(MissingPupil, "need zoe 0 200 " + bad, desk)
        self.check(NoBound, "need ann 0 200 101", made(("9 excuse ann 0", "9 excuse ann 2")))

    def test_no_line_ahead_of_all_else(self):
        desk = made(forty())
        for line in ("need zoe 201 201 0101", "mark zoe 201 01", "rules 201 x", "undo x", "tell", "moves", "mark zoe 201",
                     "need zoe 201 201"):
            self.check(NoLine, line, desk)
        self.check(NoLine, "undo ", Desk(WORKS, SCALE))


class Made(unittest.TestCase):
    def test_no_works(self):
        for bad in odd_things() + [(work,) for work in bad_works()] + [WORKS[::-1], list(WORKS), WORKS[0], Rules()]:
            for scale in (SCALE, None, bad):
                with self.assertRaises(NoWorks):
                    Desk(bad, scale)
                with self.assertRaises(NoWorks):
                    Desk(scale=scale, works=bad)

    def test_no_scale(self):
        for bad in odd_things() + bad_scales() + [Rules()]:
            with self.assertRaises(NoScale):
                Desk(WORKS, bad)
            with self.assertRaises(NoScale):
                Desk(scale=bad, works=WORKS)

    def test_by_name(self):
        for desk in (Desk(works=WORKS, scale=SCALE), Desk(scale=SCALE, works=WORKS), Desk(WORKS, scale=SCALE)):
            self.assertEqual(desk.say(line="count"), "0")
            self.assertEqual(desk.say("tell " + LINES[0]), "ok")

    def test_what_is_handed_in_is_left_as_it_was(self):
        for thing in ([1, [2]], ([1],), {"a": [1]}, [WORKS]):
            before = copy.deepcopy(thing)
            for kind, given in ((NoWorks, (thing, SCALE)), (NoScale, (WORKS, thing))):
                with self.assertRaises(kind):
                    Desk(*given)
            with self.assertRaises(NoLine):
                made().say(thing)
            self.assertEqual(thing, before)

    def test_two_desks_have_nothing_in_common(self):
        one, other = Desk(WORKS, SCALE), Desk(WORKS, SCALE)
        empty = answers(other)
        for line in LINES:
            self.assertEqual(one.say("tell " + line), "ok")
        self.assertEqual(answers(other), empty)
        with self.assertRaises(NoDeed):
            other.say("undo")
        for line in LINES[::-1]:
            self.assertEqual(other.say("tell " + line), "ok")
        # The same pages, told the other way about, but another last one.
        self.assertEqual(answers(one), answers(other))
        one.say("undo")
        self.assertEqual(other.say("count"), "4")
        self.assertEqual((one.say("pages"), one.say("count")), ("\n".join([LINES[2], LINES[0], LINES[1]]), "3"))
        other.say("undo")
        self.assertEqual(other.say("pages"), "\n".join([LINES[2], LINES[1], LINES[3]]))

    def test_told_the_same_again_with_no_deed_between(self):
        desk = made()
        first = answers(desk)
        for lines in itertools.islice(itertools.permutations(ASKED), 0, 2000, 400):
            answers(desk, lines)
            self.assertEqual(answers(desk), first)

    def test_pages_told_in_any_order_make_the_same_answers(self):
        first = answers(made())
        for lines in itertools.permutations(LINES):
            self.assertEqual(answers(made(lines)), first)

    def test_defined_in_its_file_with_its_method(self):
        self.assertEqual(Desk.__module__, "classmarks.desk")
        self.assertIn("say", vars(Desk))


if __name__ == "__main__":
    unittest.main()
