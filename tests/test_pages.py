import copy
import unittest

from classmarks.errors import NoWorks
from classmarks.marks import Mark
from classmarks.pages import are_pages
from classmarks.rules import Rules
from tests.odd_things import odd_things
from tests.test_works import bad_works

WORKS = ((10, 10, False), (20, 20, True), (30, 100, False))
RULE = (3, ("rule", 0, "cut", 10))
TRY = (9, ("try", "ann", 1, 7, 8))
EXCUSE = (9, ("excuse", "ann", 1))
GOOD_PAGES = (
    RULE, TRY, EXCUSE,
    # Days, numbers and points at their bounds.
    (0, ("rule", 0, "drop", 0)), (200, ("rule", 200, "drop", 5)), (0, ("rule", 200, "cut", 0)),
    (200, ("rule", 0, "cut", 100)), (3, ("rule", 3, "second", "best")), (3, ("rule", 3, "second", "last")),
    (3, ("rule", 3, "second", "mean")), (0, ("try", "ann", 0, 0, 0)), (200, ("try", "ann", 0, 10, 200)),
    (0, ("try", "ann", 1, 20, 200)), (200, ("try", "ann", 2, 100, 0)), (0, ("excuse", "ann", 0)),
    (200, ("excuse", "ann", 2)),
    # Pupils at their bounds.
    (9, ("try", "a", 1, 7, 8)), (9, ("try", "z", 1, 7, 8)), (9, ("try", "zzzzzzzz", 1, 7, 8)),
    (9, ("excuse", "a", 1)), (9, ("excuse", "abcdefgh", 1)), (9, ("excuse", "rule", 1)), (9, ("excuse", "excused", 1)),
)
BAD_DAYS = (-1, 201, 10 ** 29, -(10 ** 29), True, False, None, "3", (3,), [3], {3: 3}, {}, (), 3.0, b"3")
BAD_PUPILS = ("", "abcdefghi", "z" * 2000, "Ann", "aNn", "an n", " ann", "ann ", "ann1", "1", "an-n", "an.n", "a\tn", "a\n",
              "\n", "`", "{", "@", "A", 1, True, None, ("ann",), ["ann"], {"ann": 1}, b"ann", ())
BAD_NUMBERS = (-1, 3, 4, 12, 10 ** 29, -(10 ** 29), True, False, None, "1", (1,), [1], {1: 1}, 1.0, ())


def bad_deeds():
    """Tell a new list of things that miss being a deed for WORKS by one part."""
    bad = [("rule", day, "cut", 10) for day in BAD_DAYS]
    for name, values in (
            ("drop", (-1, 6, 100, 10 ** 29, True, False, "1", "best", None, (1,), [1], {}, 1.0)),
            ("cut", (-1, 101, 10 ** 29, True, False, "10", "best", None, (10,), [10], {}, 10.0)),
            ("second", (0, 1, True, None, "", "Best", "BEST", "best ", " best", "first", "lasts", "mean\n", "drop",
                        ("best",), ["best"], {"best": 1}, b"best"))):
        bad += [("rule", 0, name, value) for value in values]
    for value in (1, 0, "best", "mean"):
        bad += [("rule", 0, name, value) for name in ("", "Drop", "drop ", "cuts", "seconds", "rule", "best", 0, None, True,
                                                      ("drop",), ["drop"], {"drop": 1}, b"drop")]
    bad += [("try", pupil, 1, 7, 8) for pupil in BAD_PUPILS] + [("try", "ann", number, 7, 8) for number in BAD_NUMBERS]
    bad += [("try", "ann", 0, points, 8) for points in (-1, 11, 20, 10 ** 29, True, False, None, "7", (7,), [7], {}, 7.0)]
    bad += [("try", "ann", 1, 21, 8), ("try", "ann", 2, 101, 8), ("try", "ann", 1, -1, 8)]
    bad += [("try", "ann", 1, 7, day) for day in BAD_DAYS]
    bad += [("excuse", pupil, 1) for pupil in BAD_PUPILS] + [("excuse", "ann", number) for number in BAD_NUMBERS]
    for deed in (RULE[1], TRY[1], EXCUSE[1]):
        # Other words, too few and too many parts, other kinds in the place of the tuple.
        bad += [(word,) + deed[1:] for word in ("", "rules", "Rule", "TRY", "try ", "excused", "page", 0, None, True,
                                                 ("try",), ["try"], {"try": 1}, b"try")]
        bad += [deed[:many] for many in range(len(deed))] + [deed[1:], deed + (1,), deed + (None,), deed + deed]
        bad += [list(deed), {part: part for part in deed}, (deed,), [deed], " ".join([str(part) for part in deed])]
    bad += [("rule", "ann", 1), ("excuse", 0, "cut", 10), ("try", "ann", 1), ("excuse", "ann", 1, 7, 8),
            ("rule", "ann", 1, 7, 8), ("try", 0, "cut", 10)]
    return bad


def bad_pages():
    """Tell a new list of things that miss being a page of WORKS by one part."""
    bad = [(9, deed) for deed in bad_deeds()]
    for told, deed in (RULE, TRY, EXCUSE):
        bad += [(day, deed) for day in BAD_DAYS]
        bad += [[told, deed], {told: deed}, (told,), (deed,), deed, (told, deed, told), (told, deed, None), (deed, told),
                ((told, deed),), [(told, deed)], (told,) + deed, (told, deed, deed), f"{told} {deed[0]}"]
    return bad + ["", "ab", 0, 9, True, None, (), [], {}]


class ArePages(unittest.TestCase):
    def test_each_deed(self):
        for page in GOOD_PAGES:
            self.assertIs(are_pages(WORKS, (page,)), True, page)
        self.assertIs(are_pages(WORKS, GOOD_PAGES), True)
        self.assertIs(are_pages(WORKS, GOOD_PAGES[::-1]), True)

    def test_none_to_forty_and_forty_one(self):
        for many in range(0, 45):
            pages = tuple([(day, ("excuse", "ann", 0)) for day in range(many)])
            self.assertIs(are_pages(WORKS, pages), many <= 40, many)

    def test_some_twice_count_each_time(self):
        self.assertIs(are_pages(WORKS, (TRY, RULE, TRY, TRY)), True)
        for page in (RULE, TRY, EXCUSE):
            self.assertIs(are_pages(WORKS, (page,) * 40), True)
            self.assertIs(are_pages(WORKS, (page,) * 41), False)

    def test_in_any_order(self):
        self.assertIs(are_pages(WORKS, (TRY, RULE, EXCUSE)), True)
        self.assertIs(are_pages(WORKS, ((200, RULE[1]), (0, EXCUSE[1]), (100, TRY[1]))), True)

    def test_told_ahead_of_the_day_and_behind_it(self):
        for told in (0, 7, 8, 9, 200):
            self.assertIs(are_pages(WORKS, ((told, ("try", "ann", 1, 7, 8)), (told, ("rule", 8, "cut", 10)))), True)

    def test_each_day_number_and_points(self):
        for number in range(-2, 210):
            within = 0 <= number <= 200
            self.assertIs(are_pages(WORKS, ((number, EXCUSE[1]),)), within)
            self.assertIs(are_pages(WORKS, ((3, ("rule", number, "cut", 10)),)), within)
            self.assertIs(are_pages(WORKS, ((3, ("try", "ann", 0, 7, number)),)), within)
            self.assertIs(are_pages(WORKS, ((3, ("rule", 0, "drop", number)),)), 0 <= number <= 5)
            self.assertIs(are_pages(WORKS, ((3, ("rule", 0, "cut", number)),)), 0 <= number <= 100)
            self.assertIs(are_pages(WORKS, ((3, ("excuse", "ann", number)),)), 0 <= number <= 2)
            for work, (day, most, extra) in enumerate(WORKS):
                self.assertIs(are_pages(WORKS, ((3, ("try", "ann", work, number, 7)),)), 0 <= number <= most)

    def test_of_one_and_of_twelve_works(self):
        for many in (1, 12):
            works = ((10, 10, False),) * many
            for number in range(-1, 14):
                self.assertIs(are_pages(works, ((3, ("excuse", "ann", number)),)), 0 <= number < many)
                self.assertIs(are_pages(works, ((3, ("try", "ann", number, 1, 1)),)), 0 <= number < many)

    def test_each_sign_of_a_name(self):
        for code in range(32, 127):
            for name in (chr(code), "ab" + chr(code), chr(code) + "ab"):
                for deed in (("excuse", name, 0), ("try", name, 0, 1, 1)):
                    self.assertIs(are_pages(WORKS, ((3, deed),)), "a" <= chr(code) <= "z", name)

    def test_names_of_one_to_eight_signs(self):
        for many in range(0, 12):
            for deed in (("excuse", "q" * many, 0), ("try", "q" * many, 0, 1, 1)):
                self.assertIs(are_pages(WORKS, ((3, deed),)), 1 <= many <= 8, many)


class WhatIsNone(unittest.TestCase):
    def test_what_misses_by_one_part(self):
        for page in bad_pages():
            self.assertIs(are_pages(WORKS, (page,)), False, page)

    def test_one_bad_among_good_ones(self):
        for page in bad_pages():
            self.assertIs(are_pages(WORKS, (RULE, page)), False, page)
            self.assertIs(are_pages(WORKS, (page, TRY)), False, page)

    def test_of_anything(self):
        for thing in odd_things():
            # The tuple without parts is pages: none.
            self.assertIs(are_pages(WORKS, thing), type(thing) is tuple and thing == (), thing)
            self.assertIs(are_pages(WORKS, (thing,)), False, thing)
            for page in ((thing, EXCUSE[1]), (9, thing), (9, (thing,)), (9, (thing, "ann", 1)), (9, ("excuse", thing, 1)),
                         (9, ("excuse", "ann", thing)), (9, ("rule", thing, "cut", 1)), (9, ("rule", 0, thing, 1)),
                         (9, ("rule", 0, "cut", thing)), (9, ("rule", 0, "drop", thing)), (9, ("rule", 0, thing, thing)),
                         (9, ("try", thing, 1, 7, 8)), (9, ("try", "ann", thing, 7, 8)), (9, ("try", "ann", 1, thing, 8)),
                         (9, ("try", "ann", 1, 7, thing)), (thing, thing)):
                self.assertIs(are_pages(WORKS, (page,)), False, page)
            if thing != "best":
                self.assertIs(are_pages(WORKS, ((9, ("rule", 0, "second", thing)),)), False, thing)

    def test_other_kinds_in_the_place_of_the_tuple(self):
        for thing in ([], [TRY], {}, {TRY: TRY}, {0: TRY}, "", "9 try ann 1 7 8", TRY, (TRY, [RULE]), [RULE, TRY], None, 0,
                      True, ((TRY,),), (TRY, (RULE,)), Rules(), Mark(1), (Rules(),)):
            self.assertIs(are_pages(WORKS, thing), False, thing)

    def test_left_as_it_was_and_told_the_same_again(self):
        for page in bad_pages():
            before = copy.deepcopy(page)
            self.assertEqual([are_pages(WORKS, (page,)) for again in range(2)], [False, False])
            self.assertEqual(page, before)


class Handed(unittest.TestCase):
    def test_by_name_in_any_order(self):
        self.assertIs(are_pages(works=WORKS, thing=(TRY,)), True)
        self.assertIs(are_pages(thing=(TRY,), works=WORKS), True)
        self.assertIs(are_pages(thing=[TRY], works=WORKS), False)

    def test_no_works(self):
        for bad in odd_things() + [(work,) for work in bad_works()] + [WORKS[::-1], list(WORKS), WORKS[0], WORKS * 5, Rules()]:
            for thing in ((), (TRY,), [TRY], None, bad):
                with self.assertRaises(NoWorks):
                    are_pages(bad, thing)
                with self.assertRaises(NoWorks):
                    are_pages(thing=thing, works=bad)

    def test_defined_in_its_file(self):
        self.assertEqual(are_pages.__module__, "classmarks.pages")


if __name__ == "__main__":
    unittest.main()
