import copy
import itertools
import random
import unittest

from classmarks.errors import NoDay, NoPage, NoPages, NoWorks, TooMany
from classmarks.marks import Mark
from classmarks.moves import moved_by, overtakings
from classmarks.rules import Rules
from tests.odd_things import odd_things
from tests.plain_term import any_page, many_terms, plain_mark, plain_pupils, share
from tests.test_pages import bad_pages
from tests.test_terms import BAD_DAYS, excused, rule, tried
from tests.test_works import bad_works

ONE = ((10, 10, False),)
TWO = ((10, 10, False), (20, 10, False))
SHORT = ((10, 10, False), (20, 20, True), (30, 100, False))


def plain_moved(works, pages, page, day):
    """Tell (pupil, before, after) with plain shares, of all whose mark a page more moves."""
    more = tuple(pages) + (page,)
    marks = [(pupil, plain_mark(works, pages, pupil, day), plain_mark(works, more, pupil, day))
             for pupil in plain_pupils(more)]
    return [each for each in marks if each[1] != each[2]]


def plain_over(one, other):
    return one is not None and (other is None or one > other)


def plain_overtakings(works, pages, known):
    pupils, days = plain_pupils(pages, known), sorted(set([work[0] for work in works]))
    found = []
    for at in range(1, len(days)):
        for one, other in itertools.permutations(pupils, 2):
            now, ahead = [[plain_mark(works, pages, pupil, day, known) for pupil in (one, other)]
                          for day in (days[at], days[at - 1])]
            if plain_over(*now) and not plain_over(*ahead):
                found.append((days[at], one, other))
    return found


def shown(moved):
    return [(pupil, repr(before), repr(after)) for pupil, before, after in moved]


class MovedBy(unittest.TestCase):
    PAGES = (tried(9, "ann", 0, 5, 9), tried(12, "bob", 0, 10, 12))

    def test_a_try(self):
        self.assertEqual(shown(moved_by(TWO, self.PAGES, tried(0, "ann", 0, 6, 10))), [("ann", "Mark(5, 20)", "Mark(6, 20)")])
        self.assertEqual(shown(moved_by(TWO, self.PAGES, tried(0, "bob", 1, 1, 10))), [("bob", "Mark(10, 20)", "Mark(11, 20)")])
        # A lesser try beside a greater one, where the best one counts.
        self.assertEqual(moved_by(TWO, self.PAGES, tried(0, "ann", 0, 5, 10)), [])
        self.assertEqual(moved_by(TWO, self.PAGES, tried(0, "ann", 0, 0, 200)), [])

    def test_an_excuse(self):
        self.assertEqual(shown(moved_by(TWO, self.PAGES, excused(0, "ann", 1))), [("ann", "Mark(5, 20)", "Mark(5, 10)")])
        self.assertEqual(shown(moved_by(TWO, self.PAGES, excused(0, "ann", 0))), [("ann", "Mark(5, 20)", "Mark(0, 10)")])
        self.assertEqual(shown(moved_by(ONE, self.PAGES, excused(0, "ann", 0))), [("ann", "Mark(5, 10)", "None")])

    def test_a_rule(self):
        self.assertEqual(shown(moved_by(TWO, self.PAGES, rule(0, 0, "cut", 10))), [("bob", "Mark(10, 20)", "Mark(8, 20)")])
        self.assertEqual(shown(moved_by(TWO, self.PAGES, rule(0, 0, "drop", 1))),
                         [("ann", "Mark(5, 20)", "Mark(5, 10)"), ("bob", "Mark(10, 20)", "Mark(10, 10)")])
        self.assertEqual(moved_by(TWO, self.PAGES, rule(0, 0, "second", "last")), [])
        self.assertEqual(moved_by(TWO, self.PAGES, rule(0, 0, "drop", 0)), [])
        self.assertEqual(moved_by(TWO, self.PAGES, rule(0, 11, "cut", 10)), [])
        twice = self.PAGES + (tried(13, "bob", 0, 1, 13),)
        self.assertEqual(shown(moved_by(TWO, twice, rule(0, 0, "second", "last"))), [("bob", "Mark(10, 20)", "Mark(1, 20)")])

    def test_one_that_is_there_already(self):
        for page in self.PAGES:
            self.assertEqual(moved_by(TWO, self.PAGES, page), [])
        # The same try told on another day is another page, though.
        pages = (rule(0, 0, "second", "mean"), tried(9, "ann", 0, 5, 9), tried(9, "ann", 0, 10, 9))
        self.assertEqual(moved_by(TWO, pages, tried(9, "ann", 0, 10, 9)), [])
        self.assertEqual(shown(moved_by(TWO, pages, tried(8, "ann", 0, 10, 9))), [("ann", "Mark(7, 20)", "Mark(8, 20)")])

    def test_a_pupil_whom_no_page_ahead_tells(self):
        self.assertEqual(shown(moved_by(TWO, self.PAGES, tried(0, "cid", 0, 7, 7))), [("cid", "None", "Mark(7, 20)")])
        self.assertEqual(shown(moved_by(TWO, self.PAGES, tried(0, "cid", 0, 0, 7))), [("cid", "None", "Mark(0, 20)")])
        self.assertEqual(shown(moved_by(TWO, (), excused(0, "cid", 0))), [("cid", "None", "Mark(0, 10)")])
        self.assertEqual(shown(moved_by(TWO, (), tried(0, "cid", 0, 7, 180), 15)), [("cid", "None", "Mark(0, 10)")])
        # With this page there is no mark either.
        self.assertEqual(moved_by(ONE, self.PAGES, excused(0, "cid", 0)), [])
        self.assertEqual(moved_by(TWO, self.PAGES, tried(0, "cid", 0, 7, 7), 9), [])

    def test_marks_equal_though_made_otherwise(self):
        # 5 of 10 and 10 of 20 are the same share.
        pages = (tried(9, "ann", 0, 5, 9), tried(9, "ann", 1, 5, 9))
        self.assertEqual(moved_by(TWO, pages, excused(0, "ann", 1)), [])
        self.assertEqual(moved_by(TWO, pages, rule(0, 0, "drop", 1)), [])
        self.assertEqual(moved_by(TWO, (excused(0, "ann", 0),), tried(0, "ann", 1, 0, 20)), [])

    def test_on_that_day(self):
        page = tried(0, "ann", 1, 10, 25)
        self.assertEqual(moved_by(TWO, self.PAGES, page, 24), [])
        self.assertEqual(shown(moved_by(TWO, self.PAGES, page, 25)), [("ann", "Mark(5, 20)", "Mark(15, 20)")])
        self.assertEqual(moved_by(TWO, self.PAGES, tried(0, "ann", 0, 10, 8), 9), [])
        self.assertEqual(shown(moved_by(TWO, self.PAGES, tried(0, "ann", 0, 10, 8), 10)), [("ann", "Mark(5, 10)", "Mark(10, 10)")])
        self.assertEqual(moved_by(TWO, self.PAGES, rule(0, 15, "drop", 1), 14), [])

    def test_day_left_out(self):
        late = tried(0, "ann", 1, 10, 200)
        self.assertEqual(shown(moved_by(TWO, self.PAGES, late)), [("ann", "Mark(5, 20)", "Mark(15, 20)")])
        self.assertEqual(moved_by(TWO, self.PAGES, late, 199), [])
        for works, pages in many_terms(10, 87, 20):
            self.assertEqual(moved_by(works, pages, (3, ("excuse", "ann", 0))), moved_by(works, pages, (3, ("excuse", "ann", 0)), 200))

    def test_as_known_on_day_200(self):
        page = tried(200, "ann", 0, 10, 8)
        self.assertEqual(shown(moved_by(TWO, self.PAGES, page, 10)), [("ann", "Mark(5, 10)", "Mark(10, 10)")])
        pages = self.PAGES + (tried(200, "ann", 0, 9, 8),)
        self.assertEqual(shown(moved_by(TWO, pages, page, 10)), [("ann", "Mark(9, 10)", "Mark(10, 10)")])

    def test_forty_pages_and_thirty_nine(self):
        names = ["p" + chr(97 + at // 26) + chr(97 + at % 26) for at in range(40)]
        pages = tuple([tried(9, name, 0, 5, 9) for name in names])
        moved = moved_by(TWO, pages[:39], rule(0, 0, "drop", 1))
        self.assertEqual(shown(moved), [(name, "Mark(5, 20)", "Mark(5, 10)") for name in names[:39]])
        for page in (rule(0, 0, "drop", 1), pages[0], tried(0, "ann", 0, 1, 1)):
            with self.assertRaises(TooMany) as seen:
                moved_by(TWO, pages, page)
            self.assertEqual((seen.exception.many, seen.exception.most), (41, 40))
        # Each of the forty counts, be it the same page.
        with self.assertRaises(TooMany) as seen:
            moved_by(TWO, pages[:1] * 40, pages[0])
        self.assertEqual((seen.exception.many, seen.exception.most), (41, 40))
        self.assertEqual(moved_by(TWO, pages[:1] * 39, pages[0]), [])

    def test_by_rising_pupils(self):
        pages = tuple([tried(9, name, 0, 5, 9) for name in ("z", "bob", "ab", "abc", "a")])
        self.assertEqual([each[0] for each in moved_by(TWO, pages, rule(0, 0, "drop", 1))], ["a", "ab", "abc", "bob", "z"])

    def test_kinds(self):
        moved = moved_by(TWO, (), tried(0, "cid", 0, 7, 7))
        self.assertEqual([type(thing) for thing in (moved, moved[0]) + moved[0]], [list, tuple, str, type(None), Mark])

    def test_just_the_marks_that_a_page_moves(self):
        chance = random.Random(88)
        for works, pages in many_terms(60, 88, 39):
            for day in (20, 45, 200):
                page = any_page(chance, works, ("ann", "bob", "cid", "z", "new"))
                moved = moved_by(works, pages, page, day)
                self.assertEqual([(pupil, share(before), share(after)) for pupil, before, after in moved],
                                 plain_moved(works, pages, page, day))

    def test_in_any_order_and_some_twice(self):
        chance = random.Random(89)
        for works, pages in many_terms(15, 89, 18):
            page = any_page(chance, works)
            told = moved_by(works, pages, page)
            for again in range(3):
                mixed = list(pages) * 2
                chance.shuffle(mixed)
                self.assertEqual(moved_by(works, tuple(mixed), page), told)


class Overtakings(unittest.TestCase):
    def test_works_of_one_day_alone(self):
        pages = (tried(9, "ann", 0, 5, 9), tried(9, "bob", 0, 10, 9))
        self.assertEqual(overtakings(ONE, pages), [])
        self.assertEqual(overtakings(((10, 10, False), (10, 20, False), (10, 5, True)), pages), [])

    def test_on_two_days(self):
        pages = (tried(9, "ann", 0, 5, 9), tried(9, "bob", 0, 10, 9), tried(20, "ann", 1, 10, 20))
        self.assertEqual(overtakings(TWO, pages), [(20, "ann", "bob")])
        self.assertEqual(overtakings(TWO, pages[:2]), [])

    def test_one_that_only_comes_up(self):
        pages = (tried(9, "ann", 0, 5, 9), tried(9, "bob", 0, 10, 9), tried(20, "ann", 1, 5, 20))
        self.assertEqual(overtakings(TWO, pages), [])
        self.assertEqual(overtakings(TWO, pages + (tried(20, "ann", 1, 6, 20),)), [(20, "ann", "bob")])

    def test_one_that_leaves_behind_whom_it_was_beside(self):
        pages = (tried(9, "ann", 0, 5, 9), tried(9, "bob", 0, 5, 9), tried(20, "bob", 1, 1, 20))
        self.assertEqual(overtakings(TWO, pages), [(20, "bob", "ann")])

    def test_one_that_stays_above(self):
        pages = (tried(9, "ann", 0, 5, 9), tried(9, "bob", 0, 6, 9), tried(20, "bob", 1, 10, 20), tried(20, "ann", 1, 8, 20))
        self.assertEqual(overtakings(TWO, pages), [])

    def test_day_by_day(self):
        works = ((10, 10, False), (20, 10, False), (30, 10, False), (30, 10, False), (40, 10, True))
        pages = (tried(10, "ann", 0, 5, 10), tried(10, "bob", 0, 4, 10), tried(20, "bob", 1, 2, 20),
                 tried(30, "ann", 2, 9, 30), tried(40, "bob", 4, 10, 40))
        self.assertEqual(overtakings(works, pages), [(20, "bob", "ann"), (30, "ann", "bob"), (40, "bob", "ann")])
        # Up to day 30 with a work in which they are alike, and a day that isn't one of the works.
        pages = pages[:2] + (tried(25, "bob", 1, 2, 25),)
        self.assertEqual(overtakings(works, pages), [(30, "bob", "ann")])

    def test_a_mark_above_none(self):
        # Whoever is excused from all works has no mark.
        pages = (excused(0, "ann", 0), excused(0, "bob", 0), excused(0, "bob", 1))
        self.assertEqual(overtakings(TWO, pages), [(20, "ann", "bob")])
        pages = (excused(0, "ann", 0), excused(0, "bob", 0))
        self.assertEqual(overtakings(TWO, pages), [])
        pages = (excused(0, "ann", 0), tried(0, "bob", 0, 0, 0))
        self.assertEqual(overtakings(TWO, pages), [])
        pages = (excused(0, "ann", 0), tried(0, "bob", 0, 3, 0), tried(0, "ann", 1, 9, 20))
        self.assertEqual(overtakings(TWO, pages), [(20, "ann", "bob")])

    def test_none_above_nothing(self):
        works = ((10, 10, True), (20, 10, True), (30, 10, False))
        pages = (tried(0, "ann", 0, 9, 0), tried(0, "bob", 0, 1, 0))
        self.assertEqual(overtakings(works, pages), [(30, "ann", "bob")])
        self.assertEqual(overtakings(works[:2], pages), [])

    def test_known_ahead_of_some_tellings(self):
        pages = (tried(9, "ann", 0, 5, 9), tried(9, "bob", 0, 10, 9), tried(50, "ann", 1, 10, 20), tried(60, "cid", 0, 1, 1))
        self.assertEqual(overtakings(TWO, pages, 8), [])
        self.assertEqual(overtakings(TWO, pages, 49), [])
        self.assertEqual(overtakings(TWO, pages, 50), [(20, "ann", "bob")])
        self.assertEqual(overtakings(TWO, pages), [(20, "ann", "bob")])
        self.assertEqual(overtakings(TWO, pages + (tried(70, "cid", 1, 10, 20),), 69), [(20, "ann", "bob")])
        self.assertEqual(overtakings(TWO, pages + (tried(70, "cid", 1, 10, 20),), 70), [(20, "ann", "bob"), (20, "cid", "bob")])

    def test_no_pupil_and_one(self):
        self.assertEqual(overtakings(TWO, ()), [])
        self.assertEqual(overtakings(TWO, (rule(0, 0, "cut", 1),)), [])
        self.assertEqual(overtakings(TWO, (tried(9, "ann", 0, 5, 9),)), [])

    def test_by_a_rule_that_changes(self):
        pages = (tried(9, "ann", 0, 10, 9), tried(9, "bob", 0, 3, 9), tried(9, "bob", 1, 8, 9), rule(5, 20, "drop", 1))
        self.assertEqual(overtakings(TWO, pages), [])
        self.assertEqual(overtakings(TWO, pages[:3]), [(20, "bob", "ann")])

    def test_rising_and_the_askers_own(self):
        names = ("z", "bob", "ab", "abc", "a")
        pages = tuple([tried(9, name, 0, at, 9) for at, name in enumerate(names)]) + tuple(
            [tried(9, name, 1, 9 - 2 * at, 20) for at, name in enumerate(names)])
        told = overtakings(TWO, pages)
        self.assertEqual(told, sorted(told))
        self.assertEqual(told, [(20, one, other) for one, other in sorted(
            [(names[at], names[by]) for at in range(5) for by in range(at + 1, 5)])])
        self.assertEqual([type(thing) for thing in (told, told[0]) + told[0]], [list, tuple, int, str, str])
        before = list(told)
        told[0] = None
        told.append(1)
        self.assertIsNot(overtakings(TWO, pages), told)
        self.assertEqual(overtakings(TWO, pages), before)

    def test_as_told_for_many(self):
        for works, pages in many_terms(60, 90):
            for known in (30, 60, 200):
                told = overtakings(works, pages, known)
                self.assertEqual(told, plain_overtakings(works, pages, known))
                self.assertEqual(told, sorted(set(told)))

    def test_in_any_order_and_some_twice(self):
        chance = random.Random(91)
        for works, pages in many_terms(20, 91, 20):
            mixed = list(pages) * 2
            chance.shuffle(mixed)
            self.assertEqual(overtakings(works, tuple(mixed)), overtakings(works, pages))


class Refused(unittest.TestCase):
    PAGES = (tried(9, "ann", 1, 7, 8),)
    PAGE = excused(3, "ann", 0)

    def check(self, kind, ask, given):
        seen = []
        for names in (list(given), list(given)[::-1], sorted(given)):
            with self.assertRaises(kind) as caught:
                ask(**{name: given[name] for name in names})
            seen.append(caught.exception)
        with self.assertRaises(kind) as caught:
            ask(*given.values())
        for error in seen + [caught.exception]:
            if kind is TooMany:
                self.assertEqual((error.many, error.most), (41, 40))

    def good(self):
        return ((moved_by, {"works": SHORT, "pages": self.PAGES, "page": self.PAGE, "day": 200}),
                (overtakings, {"works": SHORT, "pages": self.PAGES, "known": 200}))

    def test_no_works(self):
        for bad in odd_things() + [(work,) for work in bad_works()] + [SHORT[::-1], list(SHORT), SHORT[0], Rules()]:
            for ask, given in self.good():
                self.check(NoWorks, ask, {**given, "works": bad})

    def test_no_pages(self):
        page = self.PAGES[0]
        for bad in [(bad,) for bad in bad_pages()] + [[page], {page: page}, page, page * 2, (page,) * 41, None, "", 0, True]:
            for ask, given in self.good():
                self.check(NoPages, ask, {**given, "pages": bad})

    def test_no_page(self):
        for bad in bad_pages() + odd_things() + [(self.PAGE,), [self.PAGE], list(self.PAGE), "3 excuse ann 0"]:
            self.check(NoPage, moved_by, {**self.good()[0][1], "page": bad})

    def test_no_page_of_these_works(self):
        for page in (tried(3, "ann", 3, 1, 1), tried(3, "ann", 0, 11, 1), excused(3, "ann", 3)):
            self.check(NoPage, moved_by, {**self.good()[0][1], "page": page})
        longer = SHORT[:1] + ((10, 11, False),) + SHORT[1:]
        self.assertEqual(len(moved_by(longer, (), tried(3, "ann", 1, 11, 1))), 1)
        self.assertEqual(len(moved_by(longer, (), excused(3, "ann", 3))), 1)

    def test_no_day(self):
        for bad in odd_things() + list(BAD_DAYS):
            self.check(NoDay, moved_by, {**self.good()[0][1], "day": bad})
            self.check(NoDay, overtakings, {**self.good()[1][1], "known": bad})

    def test_the_first_of_several(self):
        forty = self.PAGES * 40
        good = self.good()[0][1]
        bad = {"works": SHORT[::-1], "pages": self.PAGES * 41, "page": [], "day": 201}
        due = {"works": NoWorks, "pages": NoPages, "page": NoPage, "day": NoDay}
        for many in (1, 2, 3, 4):
            for chosen in itertools.combinations(good, many):
                given = {name: bad[name] if name in chosen else good[name] for name in good}
                self.check(due[chosen[0]], moved_by, given)
                if "pages" not in chosen:
                    # Too many are told behind what is no page, ahead of what is no day.
                    kind = TooMany if chosen[0] == "day" else due[chosen[0]]
                    self.check(kind, moved_by, {**given, "pages": forty})
        self.check(TooMany, moved_by, {**good, "pages": forty})
        good = self.good()[1][1]
        bad, due = {**bad, "known": -1}, {**due, "known": NoDay}
        for many in (1, 2, 3):
            for chosen in itertools.combinations(good, many):
                self.check(due[chosen[0]], overtakings, {name: bad[name] if name in chosen else good[name] for name in good})

    def test_forty_pages_are_no_more_than_may_be(self):
        self.assertEqual(overtakings(SHORT, self.PAGES * 40), [])

    def test_what_is_handed_in_is_left_as_it_was(self):
        for thing in ([1, [2]], ([1],), {"a": [1]}):
            before = copy.deepcopy(thing)
            for ask, given in self.good():
                for name, kind in (("works", NoWorks), ("pages", NoPages), ("page", NoPage), ("day", NoDay), ("known", NoDay)):
                    if name in given:
                        self.check(kind, ask, {**given, name: thing})
            self.assertEqual(thing, before)


class Handed(unittest.TestCase):
    def test_by_name_in_any_order(self):
        pages = (tried(9, "ann", 0, 5, 9), tried(9, "bob", 0, 10, 9), tried(50, "ann", 1, 10, 20))
        given = (("works", TWO), ("pages", pages), ("page", tried(0, "ann", 0, 6, 9)), ("day", 10))
        for names in itertools.permutations(given):
            self.assertEqual(shown(moved_by(**dict(names))), [("ann", "Mark(5, 10)", "Mark(6, 10)")])
        for names in itertools.permutations((("works", TWO), ("pages", pages), ("known", 49))):
            self.assertEqual(overtakings(**dict(names)), [])
        self.assertEqual(overtakings(pages=pages, works=TWO), [(20, "ann", "bob")])

    def test_told_the_same_again_behind_a_change_of_the_list(self):
        pages = (tried(9, "ann", 0, 5, 9), tried(9, "bob", 0, 10, 9))
        page = rule(0, 0, "drop", 1)
        one = moved_by(TWO, pages, page)
        before = shown(one)
        one[0][1].points = 99
        one[0] = None
        one.append(1)
        other = moved_by(TWO, pages, page)
        self.assertIsNot(one, other)
        self.assertEqual(shown(other), before)

    def test_pages_and_works_are_left_as_they_were(self):
        for works, pages in many_terms(10, 92, 30):
            before = copy.deepcopy((works, pages))
            page = excused(3, "ann", 0)
            self.assertEqual(moved_by(works, pages, page), moved_by(works, pages, page))
            self.assertEqual(overtakings(works, pages), overtakings(works, pages))
            self.assertEqual((works, pages), before)

    def test_defined_in_its_file(self):
        for thing in (moved_by, overtakings):
            self.assertEqual(thing.__module__, "classmarks.moves")


if __name__ == "__main__":
    unittest.main()
