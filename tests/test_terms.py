import copy
import itertools
import random
import unittest

from classmarks.errors import MissingPupil, NoDay, NoPages, NoWorks
from classmarks.marks import Mark
from classmarks.rules import Rules
from classmarks.sheets import Sheet
from classmarks.terms import pupils_of, rules_on, sheet_of
from tests.odd_things import odd_things
from tests.plain_term import (
    PUPILS, WORKS, many_terms, plain_mark, plain_pupils, plain_result, plain_rules, share)
from tests.test_pages import bad_pages
from tests.test_works import bad_works

BAD_DAYS = (-1, 201, 10 ** 29, -(10 ** 29), True, False, "5", (5,), [5], {5: 5}, None)


def rule(told, day, name, value):
    return told, ("rule", day, name, value)


def tried(told, pupil, number, points, day):
    return told, ("try", pupil, number, points, day)


def excused(told, pupil, number):
    return told, ("excuse", pupil, number)


def results(pages, pupil="ann", day=200, known=200, works=WORKS):
    return sheet_of(works, tuple(pages), pupil, day, known).results


class RulesOn(unittest.TestCase):
    def test_none_told(self):
        for day in (0, 7, 200):
            for known in (0, 7, 200):
                self.assertEqual(rules_on(WORKS, (), day, known), Rules())
        self.assertEqual(rules_on(WORKS, (tried(0, "ann", 0, 1, 1), excused(0, "ann", 0)), 200), Rules())

    def test_from_its_day_on(self):
        pages = (rule(3, 10, "cut", 7), rule(3, 20, "drop", 2), rule(3, 30, "second", "last"))
        for day, rules in ((0, Rules()), (9, Rules()), (10, Rules(0, 7)), (19, Rules(0, 7)), (20, Rules(2, 7)),
                           (29, Rules(2, 7)), (30, Rules(2, 7, "last")), (200, Rules(2, 7, "last"))):
            self.assertEqual(rules_on(WORKS, pages, day), rules, day)

    def test_of_the_greatest_day(self):
        pages = (rule(50, 10, "cut", 99), rule(3, 20, "cut", 1), rule(90, 5, "cut", 50))
        for day, cut in ((4, 0), (5, 50), (9, 50), (10, 99), (19, 99), (20, 1), (200, 1)):
            self.assertEqual(rules_on(WORKS, pages, day).cut, cut, day)

    def test_of_one_day_the_one_told_last(self):
        pages = (rule(5, 10, "cut", 99), rule(7, 10, "cut", 1), rule(6, 10, "cut", 50))
        for known, cut in ((4, 0), (5, 99), (6, 50), (7, 1), (200, 1)):
            self.assertEqual(rules_on(WORKS, pages, 10, known).cut, cut, known)

    def test_told_on_one_day_the_greatest_value(self):
        pages = (rule(5, 10, "cut", 9), rule(5, 10, "cut", 100), rule(5, 10, "cut", 50), rule(5, 10, "drop", 1),
                 rule(5, 10, "drop", 5), rule(5, 10, "drop", 0))
        self.assertEqual(rules_on(WORKS, pages, 10), Rules(5, 100))
        for words, second in ((("best", "last", "mean"), "mean"), (("best", "last"), "last"), (("mean", "best"), "mean"),
                              (("last", "best"), "last"), (("best",), "best")):
            for order in itertools.permutations(words):
                told = tuple([rule(5, 10, "second", word) for word in order])
                self.assertEqual(rules_on(WORKS, told, 10).second, second)

    def test_as_known_ahead_of_the_telling_on_it_and_left_out(self):
        pages = (rule(30, 10, "cut", 9),)
        for known, cut in ((0, 0), (10, 0), (29, 0), (30, 9), (31, 9), (200, 9)):
            self.assertEqual(rules_on(WORKS, pages, 10, known).cut, cut)
        self.assertEqual(rules_on(WORKS, pages, 10).cut, 9)
        self.assertEqual(rules_on(WORKS, (rule(200, 200, "cut", 9),), 200).cut, 9)
        self.assertEqual(rules_on(WORKS, (rule(200, 200, "cut", 9),), 200, 199).cut, 0)

    def test_of_later_days(self):
        pages = (rule(3, 11, "cut", 9), rule(3, 200, "drop", 5))
        self.assertEqual(rules_on(WORKS, pages, 10), Rules())
        self.assertEqual(rules_on(WORKS, pages, 199), Rules(0, 9))
        self.assertEqual(rules_on(WORKS, pages, 200), Rules(5, 9))

    def test_back_to_what_it_was(self):
        pages = (rule(3, 10, "drop", 5), rule(3, 20, "drop", 0), rule(3, 10, "second", "mean"), rule(3, 20, "second", "best"))
        self.assertEqual([rules_on(WORKS, pages, day) for day in (9, 10, 19, 20)],
                         [Rules(), Rules(5, 0, "mean"), Rules(5, 0, "mean"), Rules()])

    def test_as_told_for_many(self):
        for works, pages in many_terms(60, 81):
            for day, known in itertools.product((0, 20, 41, 200), (10, 40, 200)):
                self.assertEqual(rules_on(works, pages, day, known), Rules(*plain_rules(pages, day, known)))

    def test_each_time_new_ones(self):
        pages = (rule(3, 10, "cut", 7),)
        one = rules_on(WORKS, pages, 10)
        one.cut = 0
        self.assertEqual(rules_on(WORKS, pages, 10), Rules(0, 7))
        self.assertIs(type(one), Rules)


class Results(unittest.TestCase):
    def test_nothing_handed_in(self):
        self.assertEqual(results([tried(9, "ann", 1, 7, 8)]), (None, ((7, 8),), None, None, None))
        self.assertEqual(results([tried(9, "ann", 1, 7, 8), tried(9, "bob", 0, 7, 8)], "bob")[:2], (((7, 8),), None))

    def test_tries_by_their_days_and_of_one_day_by_their_points(self):
        pages = [tried(1, "ann", 1, 9, 30), tried(2, "ann", 1, 8, 10), tried(3, "ann", 1, 20, 20)]
        for order in itertools.permutations(pages):
            self.assertEqual(results(order)[1], ((8, 10), (20, 20), (9, 30)))
        pages = [tried(3, "ann", 1, 9, 30), tried(2, "ann", 1, 20, 30), tried(1, "ann", 1, 14, 30)]
        for order in itertools.permutations(pages):
            self.assertEqual(results(order)[1], ((9, 30), (14, 30), (20, 30)))

    def test_the_last_three(self):
        pages = [tried(9, "ann", 1, points, day) for points, day in ((20, 1), (3, 2), (9, 5), (4, 5), (1, 7))]
        for order in itertools.permutations(pages):
            self.assertEqual(results(order)[1], ((4, 5), (9, 5), (1, 7)))
        self.assertEqual(results(pages[:4])[1], ((3, 2), (4, 5), (9, 5)))
        # Of four tries of one day the least is the one that goes.
        self.assertEqual(results([tried(9, "ann", 1, points, 5) for points in (7, 2, 9, 4)])[1], ((4, 5), (7, 5), (9, 5)))

    def test_tries_of_days_to_the_day(self):
        pages = [tried(0, "ann", 1, 5, 10), tried(0, "ann", 1, 6, 11), tried(0, "ann", 1, 7, 12), tried(0, "ann", 1, 8, 13)]
        self.assertEqual(results(pages, day=10)[1], ((5, 10),))
        self.assertEqual(results(pages, day=11)[1], ((5, 10), (6, 11)))
        self.assertEqual(results(pages, day=12)[1], ((5, 10), (6, 11), (7, 12)))
        self.assertEqual(results(pages, day=13)[1], ((6, 11), (7, 12), (8, 13)))
        self.assertEqual(results([tried(0, "ann", 1, 5, 90)], day=89)[1], None)
        self.assertEqual(results([tried(0, "ann", 1, 5, 90)], day=90)[1], ((5, 90),))

    def test_one_for_each_page(self):
        # The same try told on two days is two tries; the same page twice is one.
        pages = [tried(9, "ann", 1, 7, 8), tried(10, "ann", 1, 7, 8)]
        self.assertEqual(results(pages)[1], ((7, 8), (7, 8)))
        self.assertEqual(results(pages + pages)[1], ((7, 8), (7, 8)))
        self.assertEqual(results(pages, known=9)[1], ((7, 8),))
        self.assertEqual(results([pages[0]] * 5)[1], ((7, 8),))
        pages = [tried(told, "ann", 1, 7, 8) for told in range(9, 20)]
        self.assertEqual(results(pages)[1], ((7, 8),) * 3)

    def test_two_tries_of_one_are_counted_as_two(self):
        pages = (rule(0, 0, "second", "mean"), tried(9, "ann", 1, 7, 8), tried(10, "ann", 1, 7, 8), tried(9, "ann", 1, 4, 9))
        self.assertEqual(sheet_of(WORKS, pages, "ann", 10).rows(), ((0, 10), (6, 20)))
        self.assertEqual(sheet_of(WORKS, pages, "ann", 10, 9).rows(), ((0, 10), (5, 20)))

    def test_excused(self):
        pages = [tried(9, "ann", 1, 7, 8), excused(50, "ann", 1), excused(50, "bob", 0)]
        self.assertEqual(results(pages)[:2], (None, "excused"))
        self.assertEqual(results(pages, known=49)[:2], (None, ((7, 8),)))
        self.assertEqual(results(pages, known=50)[:2], (None, "excused"))
        self.assertEqual(results(pages, "bob")[:2], ("excused", None))

    def test_excused_late_for_a_day_ahead_of_the_telling(self):
        pages = [excused(150, "ann", 1), tried(0, "ann", 0, 3, 3)]
        self.assertEqual(results(pages, day=10, known=200), (((3, 3),), "excused"))
        self.assertEqual(results(pages, day=10, known=149), (((3, 3),), None))
        self.assertEqual(results(pages, day=10, known=150), (((3, 3),), "excused"))

    def test_tries_told_late_or_ahead_of_their_day(self):
        for told in (0, 7, 8, 9, 200):
            self.assertEqual(results([tried(told, "ann", 1, 7, 8)])[1], ((7, 8),))
        self.assertEqual(results([tried(0, "ann", 1, 7, 180)], day=179)[1], None)

    def test_pupils_with_the_names_of_words(self):
        for pupil in ("rule", "try", "excuse", "excused", "drop", "cut", "second", "best"):
            pages = [tried(9, pupil, 1, 7, 8), excused(9, pupil, 0), rule(0, 0, "cut", 1), rule(0, 0, "second", "best")]
            self.assertEqual(results(pages, pupil)[:2], ("excused", ((7, 8),)))
            self.assertEqual(pupils_of(WORKS, tuple(pages)), [pupil])
            self.assertEqual(rules_on(WORKS, tuple(pages), 0), Rules(0, 1))

    def test_each_pupil_apart(self):
        pages = [tried(9, pupil, 1, points, 8) for points, pupil in enumerate(PUPILS)] + [excused(9, "z", 0)]
        for points, pupil in enumerate(PUPILS):
            self.assertEqual(results(pages, pupil)[1], ((points, 8),))
            self.assertEqual(results(pages, pupil)[0], "excused" if pupil == "z" else None)


class SheetOf(unittest.TestCase):
    def test_works_of_days_to_the_day(self):
        pages = (tried(0, "ann", 0, 3, 3),)
        for day in range(0, 201):
            sheet = sheet_of(WORKS, pages, "ann", day)
            due = tuple([work for work in WORKS if work[0] <= day])
            if due:
                self.assertEqual(sheet.works, due)
                self.assertEqual((len(sheet.rules), len(sheet.results)), (len(due), len(due)))
            else:
                self.assertIsNone(sheet)

    def test_none_ahead_of_all_works(self):
        pages = (tried(0, "ann", 0, 3, 3),)
        self.assertIsNone(sheet_of(WORKS, pages, "ann", 9))
        self.assertIsNone(sheet_of(WORKS, pages, "ann", 0, 0))
        self.assertIsNotNone(sheet_of(WORKS, pages, "ann", 10, 0))
        self.assertIsNotNone(sheet_of(((0, 10, False),), pages, "ann", 0, 0))

    def test_each_work_by_the_rules_of_its_own_day(self):
        pages = (rule(3, 0, "cut", 1), rule(3, 30, "cut", 2), rule(3, 50, "second", "last"), rule(3, 60, "drop", 3),
                 rule(3, 61, "cut", 100), excused(0, "ann", 4))
        sheet = sheet_of(WORKS, pages, "ann", 200)
        self.assertEqual(sheet.rules, (Rules(0, 1), Rules(0, 1), Rules(0, 2), Rules(0, 2, "last"), Rules(3, 2, "last")))
        self.assertEqual(sheet.drop, 3)
        self.assertEqual(sheet_of(WORKS, pages, "ann", 59).drop, 0)

    def test_drop_of_the_rules_on_the_day(self):
        pages = (rule(3, 10, "drop", 1), rule(3, 45, "drop", 2), rule(90, 60, "drop", 3), excused(0, "ann", 4))
        for day, known, drop in ((10, 200, 1), (44, 200, 1), (45, 200, 2), (59, 200, 2), (60, 200, 3), (200, 200, 3),
                                 (60, 89, 2), (60, 90, 3), (200, 2, 0), (200, 3, 2)):
            self.assertEqual(sheet_of(WORKS, pages, "ann", day, known).drop, drop, (day, known))

    def test_the_sheet_that_is_told(self):
        pages = (rule(3, 0, "cut", 10), tried(13, "ann", 1, 20, 13), rule(20, 20, "drop", 1), tried(14, "ann", 1, 16, 14),
                 tried(9, "ann", 0, 3, 9), excused(70, "ann", 3), tried(70, "ann", 2, 4, 30))
        sheet = sheet_of(WORKS, pages, "ann", 200)
        cut = Rules(0, 10)
        drop = Rules(1, 10)
        self.assertEqual(sheet, Sheet(WORKS, (cut, cut, drop, drop, drop), (
            ((3, 9),), ((20, 13), (16, 14)), ((4, 30),), "excused", None), 1))
        self.assertEqual(str(sheet), "0:kept:3/10 1:kept:14/20 2:extra:4/5 3:excused 4:dropped:0/100")
        self.assertEqual(str(sheet.mark()), "7/10")
        self.assertEqual(str(sheet_of(WORKS, pages, "ann", 19)), "0:kept:3/10 1:kept:14/20")
        self.assertEqual(str(sheet_of(WORKS, pages, "ann", 13)), "0:kept:3/10 1:kept:14/20")
        self.assertEqual(str(sheet_of(WORKS, pages, "ann", 12)), "0:kept:3/10 1:kept:0/20")
        self.assertEqual(str(sheet_of(WORKS, pages, "ann", 12, 9)), "0:kept:3/10 1:kept:0/20")

    def test_rules_told_late_make_other_scores_for_days_ahead(self):
        pages = (tried(0, "ann", 0, 10, 12), rule(100, 5, "cut", 25))
        self.assertEqual(sheet_of(WORKS, pages, "ann", 12, 99).rows()[0], (10, 10))
        self.assertEqual(sheet_of(WORKS, pages, "ann", 12, 100).rows()[0], (5, 10))
        self.assertEqual(sheet_of(WORKS, pages, "ann", 12).rows()[0], (5, 10))

    def test_known_left_out(self):
        for works, pages in many_terms(20, 82):
            for pupil in plain_pupils(pages):
                for day in (20, 60):
                    self.assertEqual(sheet_of(works, pages, pupil, day), sheet_of(works, pages, pupil, day, 200))

    def test_as_told_for_many(self):
        for works, pages in many_terms(60, 83):
            for day, known in ((20, 40), (45, 200), (60, 60), (200, 200)):
                due = tuple([work for work in works if work[0] <= day])
                for pupil in plain_pupils(pages, known):
                    sheet = sheet_of(works, pages, pupil, day, known)
                    if not due:
                        self.assertIsNone(sheet)
                        continue
                    rules = tuple([Rules(*plain_rules(pages, work[0], known)) for work in due])
                    made = tuple([plain_result(pages, pupil, number, day, known) for number in range(len(due))])
                    self.assertEqual(sheet, Sheet(due, rules, made, plain_rules(pages, day, known)[0]))
                    self.assertEqual(share(sheet.mark()), plain_mark(works, pages, pupil, day, known))

    def test_in_any_order_and_some_twice(self):
        chance = random.Random(84)
        for works, pages in many_terms(20, 84, 20):
            for pupil in plain_pupils(pages):
                for again in range(3):
                    mixed = list(pages) + [chance.choice(pages) for each in range(len(pages))]
                    chance.shuffle(mixed)
                    for day, known in ((45, 30), (200, 200)):
                        if pupil in plain_pupils(pages, known):
                            self.assertEqual(sheet_of(works, tuple(mixed), pupil, day, known),
                                             sheet_of(works, pages, pupil, day, known))

    def test_each_time_a_new_one(self):
        pages = (rule(3, 0, "cut", 10), tried(13, "ann", 1, 20, 13))
        one = sheet_of(WORKS, pages, "ann", 200)
        one.rules[0].cut = 99
        one.drop = 5
        other = sheet_of(WORKS, pages, "ann", 200)
        self.assertEqual((other.drop, other.rules), (0, (Rules(0, 10),) * 5))
        other.rules[1].cut = 99
        self.assertEqual(other.rules[2], Rules(0, 10))


class PupilsOf(unittest.TestCase):
    PAGES = (tried(5, "cid", 0, 1, 1), excused(7, "bob", 1), rule(0, 0, "cut", 1), tried(9, "ann", 0, 1, 1),
             tried(9, "bob", 0, 1, 1), tried(9, "z", 0, 1, 200), tried(8, "zz", 4, 1, 1))

    def test_of_a_known_day(self):
        for known, pupils in ((0, []), (4, []), (5, ["cid"]), (6, ["cid"]), (7, ["bob", "cid"]), (8, ["bob", "cid", "zz"]),
                              (9, ["ann", "bob", "cid", "z", "zz"]), (200, ["ann", "bob", "cid", "z", "zz"])):
            self.assertEqual(pupils_of(WORKS, self.PAGES, known), pupils, known)
        self.assertEqual(pupils_of(WORKS, self.PAGES), ["ann", "bob", "cid", "z", "zz"])

    def test_none(self):
        self.assertEqual(pupils_of(WORKS, ()), [])
        self.assertEqual(pupils_of(WORKS, (rule(0, 0, "cut", 1),)), [])

    def test_forty(self):
        names = ["p" + chr(97 + at // 26) + chr(97 + at % 26) for at in range(40)]
        pages = tuple([excused(3, name, 0) for name in names[::-1]])
        self.assertEqual(pupils_of(WORKS, pages), names)

    def test_rising_as_texts(self):
        pages = tuple([excused(3, name, 0) for name in ("b", "ab", "a", "aa", "ba", "abc")])
        self.assertEqual(pupils_of(WORKS, pages), ["a", "aa", "ab", "abc", "b", "ba"])

    def test_the_list_is_the_askers_own(self):
        one = pupils_of(WORKS, self.PAGES)
        one[0] = "eve"
        one.append("fay")
        other = pupils_of(WORKS, self.PAGES)
        self.assertIsNot(one, other)
        self.assertEqual(other, ["ann", "bob", "cid", "z", "zz"])
        self.assertIs(type(other), list)

    def test_as_told_for_many(self):
        for works, pages in many_terms(40, 85):
            for known in (0, 20, 40, 80, 200):
                self.assertEqual(pupils_of(works, pages, known), plain_pupils(pages, known))


class Missing(unittest.TestCase):
    PAGES = (tried(9, "ann", 1, 7, 8), excused(50, "bob", 1), rule(3, 0, "cut", 10))

    def check(self, pupil, day, known, pages=PAGES):
        for by_name in (False, True):
            with self.assertRaises(MissingPupil) as seen:
                if by_name:
                    sheet_of(known=known, day=day, pupil=pupil, pages=pages, works=WORKS)
                else:
                    sheet_of(WORKS, pages, pupil, day, known)
            self.assertEqual(seen.exception.pupil, pupil)
            self.assertIs(type(seen.exception.pupil), type(pupil))

    def test_whom_no_page_tells(self):
        for pupil in ("cid", "an", "anna", "a", "cut", "rule", "drop"):
            for day in (0, 9, 10, 200):
                self.check(pupil, day, 200)
        self.check("ann", 200, 200, ())

    def test_whom_only_pages_tell_that_are_not_known(self):
        self.check("bob", 200, 49)
        self.check("bob", 0, 49)
        self.check("ann", 200, 8)
        self.assertIsNone(sheet_of(WORKS, self.PAGES, "bob", 0, 50))
        self.assertEqual(sheet_of(WORKS, self.PAGES, "bob", 10, 50).results, (None, "excused"))

    def test_told_by_a_page_of_a_later_day(self):
        pages = (tried(9, "ann", 1, 7, 150),)
        self.assertEqual(sheet_of(WORKS, pages, "ann", 10, 9).results, (None, None))
        self.assertIsNone(sheet_of(WORKS, pages, "ann", 9, 9))

    def test_what_is_no_pupil(self):
        for bad in odd_things() + ["Ann", "ann ", " ann", "ANN", "ann\n", "annannann", 1, True, ["ann"], ("ann",)]:
            if bad == bad and isinstance(bad, (int, str, list, tuple, dict, type(None))):
                self.check(bad, 10, 200)
                self.check(bad, 0, 0)

    def test_what_is_no_pupil_is_not_kept_where_it_can_be_changed(self):
        bad = ["ann", ["bob"]]
        with self.assertRaises(MissingPupil) as seen:
            sheet_of(WORKS, self.PAGES, bad, 10)
        bad[1].append("cid")
        self.assertEqual(seen.exception.pupil, ["ann", ["bob"]])


class Refused(unittest.TestCase):
    PAGES = (tried(9, "ann", 1, 7, 8),)

    def check(self, kind, ask, given):
        with self.assertRaises(kind):
            ask(*given.values())
        for names in (list(given), list(given)[::-1], sorted(given)):
            with self.assertRaises(kind):
                ask(**{name: given[name] for name in names})

    def good(self):
        """Tell each function with good things for its names, in their order."""
        return ((rules_on, {"works": WORKS, "pages": self.PAGES, "day": 5, "known": 200}),
                (sheet_of, {"works": WORKS, "pages": self.PAGES, "pupil": "ann", "day": 5, "known": 200}),
                (pupils_of, {"works": WORKS, "pages": self.PAGES, "known": 200}))

    def test_no_works(self):
        for bad in odd_things() + [(work,) for work in bad_works()] + [WORKS[::-1], list(WORKS), WORKS[0], Rules()]:
            for ask, given in self.good():
                self.check(NoWorks, ask, {**given, "works": bad})

    def test_no_pages(self):
        short = ((10, 10, False), (20, 20, True), (30, 100, False))
        page = self.PAGES[0]
        for bad in [(bad,) for bad in bad_pages()] + [[page], {page: page}, page, page * 2, (page,) * 41, None, "", 0, True]:
            for ask, given in self.good():
                self.check(NoPages, ask, {**given, "works": short, "pages": bad})

    def test_no_day(self):
        for bad in odd_things() + list(BAD_DAYS):
            for ask, given in self.good():
                for name in set(given) & {"day", "known"}:
                    self.check(NoDay, ask, {**given, name: bad})

    def test_day_has_no_value_where_none_is_handed_in(self):
        for ask in (rules_on, sheet_of):
            with self.assertRaises(TypeError):
                ask(*[WORKS, self.PAGES, "ann"][:3 if ask is sheet_of else 2])

    def test_the_first_of_several(self):
        bad = {"works": WORKS[::-1], "pages": [self.PAGES], "day": 201, "known": -1, "pupil": "bob"}
        due = {"works": NoWorks, "pages": NoPages, "day": NoDay, "known": NoDay, "pupil": MissingPupil}
        for ask, good in self.good():
            # A missing pupil is looked at behind the days.
            order = [name for name in ("works", "pages", "day", "known", "pupil") if name in good]
            for many in range(1, len(order) + 1):
                for chosen in itertools.combinations(order, many):
                    self.check(due[chosen[0]], ask, {name: bad[name] if name in chosen else good[name] for name in good})

    def test_what_is_handed_in_is_left_as_it_was(self):
        for thing in ([1, [2]], ([1],), {"a": [1]}):
            before = copy.deepcopy(thing)
            for ask, given in self.good():
                for name, kind in (("works", NoWorks), ("pages", NoPages), ("known", NoDay)):
                    self.check(kind, ask, {**given, name: thing})
                self.assertEqual(thing, before)


class Handed(unittest.TestCase):
    def test_by_name_in_any_order(self):
        pages = (tried(9, "ann", 1, 7, 8), rule(30, 10, "cut", 9))
        for names in itertools.permutations((("works", WORKS), ("pages", pages), ("day", 10), ("known", 29))):
            self.assertEqual(rules_on(**dict(names)), Rules())
            self.assertEqual(sheet_of(pupil="ann", **dict(names)).rules, (Rules(), Rules()))
        self.assertEqual(rules_on(day=10, pages=pages, works=WORKS), Rules(0, 9))
        self.assertEqual(pupils_of(known=8, pages=pages, works=WORKS), [])
        self.assertEqual(pupils_of(pages=pages, works=WORKS), ["ann"])

    def test_told_the_same_again(self):
        for works, pages in many_terms(15, 86):
            before = copy.deepcopy((works, pages))
            for day, known in ((20, 40), (200, 200)):
                self.assertEqual(rules_on(works, pages, day, known), rules_on(works, pages, day, known))
                for pupil in pupils_of(works, pages, known):
                    self.assertEqual(sheet_of(works, pages, pupil, day, known), sheet_of(works, pages, pupil, day, known))
            self.assertEqual((works, pages), before)

    def test_of_a_mark_nothing_else_is_told(self):
        self.assertEqual(sheet_of(WORKS, (tried(9, "ann", 1, 10, 8), excused(9, "ann", 0)), "ann", 10).mark(), Mark(50))

    def test_defined_in_its_file(self):
        for thing in (rules_on, sheet_of, pupils_of):
            self.assertEqual(thing.__module__, "classmarks.terms")


if __name__ == "__main__":
    unittest.main()
