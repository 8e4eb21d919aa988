import copy
import itertools
import random
import unittest
from fractions import Fraction

from classmarks.drops import best_mark, is_paper, kept_rows, paper_of
from classmarks.errors import BadRule, NoExtra, NoRows
from classmarks.marks import Mark
from tests.odd_things import odd_things

ROWS = ((3, 10), (9, 10), (30, 40))
ALL_FOUR = (kept_rows, best_mark, paper_of, lambda rows, drop=0, extra=0: is_paper(rows, None, drop, extra))
EXTRAS = (0, 1, 7, 50, 1000, 10 ** 30 - 1)


def bad_rows():
    """Tell a new list of things that miss being rows by one part."""
    rows = [
        (-1, 10), (11, 10), (0, 0), (1, 0), (0, -1), (0, 101), (101, 101), (101, 100), (10 ** 29, 100), (0, 10 ** 29),
        (-(10 ** 29), 10), (True, 10), (False, 10), (0, True), (True, True), ("1", 10), (1, "10"), (None, 10), (1, None),
        ([1], 10), (1, [10]), ((1,), 10), (1, (10,)), ({}, 10), (1, {}), (1.0, 10), (1, 10.0), (b"1", 10),
        (), (1,), (1, 10, 10), (1, 10, None), (1, 10, False), [1, 10], {1: 10}, {0: 1, 1: 10}, "ab", None, 1, True,
        ((1, 10),), [(1, 10)],
    ]
    return [place for bad in rows for place in (
        (bad,), (bad, (1, 10)), ((1, 10), bad), ((1, 10), bad, (1, 10)), ((1, 10),) * 11 + (bad,))] + [
        (), ((1, 10),) * 13, ((1, 10),) * 299, (1, 10), [(1, 10)], [[1, 10]], {(1, 10): (1, 10)}, {0: (1, 10)},
        (((1, 10),),), "rows", 1, True, False, None,
    ]


def many_rows():
    """Tell rows of one to twelve, some of them alike or with the same share."""
    chance = random.Random(20)
    found = []
    for many in range(1, 13):
        for most in (1, 2, 5, 20, 100):
            mosts = [chance.randint(1, most) for row in range(many)]
            found.append(tuple([(chance.randint(0, row), row) for row in mosts]))
        found.append(tuple([(chance.randint(0, 2) * 5, 10) for row in range(many)]))
        found.append(tuple([chance.choice([(1, 2), (2, 4), (50, 100), (0, 1)]) for row in range(many)]))
        found.append(((3, 4),) * many)
        found.append(((0, 7),) * many)
        found.append(((7, 7),) * many)
    return found


def share_of(rows, kept, extra):
    return Fraction(sum(rows[k][0] for k in kept) + extra, sum(rows[k][1] for k in kept))


def all_kept(rows, drop):
    """Tell all that may be kept, by trying each."""
    return list(itertools.combinations(range(len(rows)), max(1, len(rows) - drop)))


def best_by_trying(rows, drop, extra):
    """Tell those whose mark is greatest, of several the first."""
    return min(all_kept(rows, drop), key=lambda kept: (-share_of(rows, kept, extra), kept))


class Kept(unittest.TestCase):
    def test_by_hand(self):
        self.assertEqual(kept_rows(ROWS), (0, 1, 2))
        self.assertEqual(kept_rows(ROWS, 1), (1, 2))
        self.assertEqual(kept_rows(ROWS, 2), (1,))
        self.assertEqual(kept_rows(((10, 10), (0, 10), (10, 10)), 1), (0, 2))
        self.assertEqual(kept_rows(((0, 10), (10, 10), (10, 10)), 2), (1,))

    def test_the_worst_share_is_not_always_what_is_dropped(self):
        # 0 of 1 is the worst share, but leaving 40 of 100 out helps more.
        rows = ((0, 1), (40, 100), (90, 100))
        self.assertEqual(kept_rows(rows, 1), (0, 2))
        self.assertEqual(repr(best_mark(rows, 1)), "Mark(90, 101)")

    def test_extra_points_may_change_what_is_kept(self):
        rows = ((10, 10), (80, 100), (30, 50))
        self.assertEqual(kept_rows(rows, 1, 0), (0, 1))
        self.assertEqual(kept_rows(rows, 1, 50), (0, 2))
        self.assertEqual(kept_rows(rows, 2, 0), (0,))
        self.assertEqual(kept_rows(((5, 10), (1, 1)), 1, 100), (1,))

    def test_one_row_stays(self):
        for drop in range(6):
            self.assertEqual(kept_rows(((3, 10),), drop), (0,))
            self.assertEqual(kept_rows(((0, 100),), drop, 7), (0,))
        self.assertEqual(kept_rows(((3, 10), (4, 10)), 2), (1,))
        self.assertEqual(kept_rows(((3, 10), (4, 10)), 5), (1,))
        self.assertEqual(kept_rows(((4, 10), (3, 10), (2, 10)), 5), (0,))

    def test_as_many_as_drop_tells(self):
        for rows in many_rows():
            for drop in range(6):
                self.assertEqual(len(kept_rows(rows, drop)), max(1, len(rows) - drop))

    def test_the_best_of_all_that_may_be_kept(self):
        for rows in many_rows():
            for drop, extra in itertools.product(range(6), EXTRAS):
                best = best_by_trying(rows, drop, extra)
                self.assertEqual(kept_rows(rows, drop, extra), best, (rows, drop, extra))
                self.assertEqual(paper_of(rows, drop, extra)[0], best)

    def test_all_small_rows(self):
        single = [(points, most) for most in (1, 2, 3) for points in range(most + 1)]
        for rows in itertools.product(single, repeat=3):
            for drop, extra in itertools.product((1, 2), (0, 1, 3)):
                self.assertEqual(kept_rows(rows, drop, extra), best_by_trying(rows, drop, extra), (rows, drop, extra))

    def test_of_several_the_first(self):
        for many in range(1, 13):
            for drop in range(6):
                for row in ((0, 1), (3, 4), (100, 100)):
                    for extra in EXTRAS:
                        self.assertEqual(kept_rows((row,) * many, drop, extra), tuple(range(max(1, many - drop))))
        self.assertEqual(kept_rows(((1, 2), (2, 4), (3, 6)), 1), (0, 1))
        self.assertEqual(kept_rows(((1, 2), (0, 2), (2, 4), (50, 100)), 2), (0, 2))
        self.assertEqual(kept_rows(((1, 2), (5, 5), (2, 4), (5, 5)), 1), (0, 1, 3))

    def test_the_first_though_a_mark_alike_has_more_points(self):
        self.assertEqual(paper_of(((1, 2), (50, 100)), 1), ((0,), 1, 2))
        self.assertEqual(paper_of(((50, 100), (1, 2)), 1), ((0,), 50, 100))

    def test_rising_tuple_of_whole_numbers(self):
        for rows in many_rows():
            told = kept_rows(rows, 2, 1)
            self.assertIs(type(told), tuple)
            self.assertEqual({type(number) for number in told}, {int})
            self.assertEqual(list(told), sorted(set(told)))


class BestMark(unittest.TestCase):
    def test_not_shortened(self):
        self.assertEqual(repr(best_mark(((5, 10), (10, 20)))), "Mark(15, 30)")
        self.assertEqual(repr(best_mark(((5, 10), (5, 10)), 1)), "Mark(5, 10)")
        self.assertEqual(repr(best_mark(((0, 10), (0, 10)))), "Mark(0, 20)")
        self.assertEqual(repr(best_mark(((10, 10),) * 12, 5)), "Mark(70, 70)")
        self.assertEqual(repr(best_mark(ROWS, 1, 5)), "Mark(44, 50)")

    def test_of_several_that_of_the_first(self):
        self.assertEqual(repr(best_mark(((1, 2), (50, 100)), 1)), "Mark(1, 2)")
        self.assertEqual(repr(best_mark(((50, 100), (1, 2)), 1)), "Mark(50, 100)")

    def test_above_all(self):
        self.assertEqual(repr(best_mark(((10, 10),), 0, 15)), "Mark(25, 10)")
        self.assertEqual(repr(best_mark(((10, 10),), 5, 10 ** 30 - 1)), f"Mark({10 ** 30 + 9}, 10)")

    def test_the_greatest_of_all(self):
        for rows in many_rows():
            for drop, extra in itertools.product(range(6), EXTRAS):
                mark = best_mark(rows, drop, extra)
                kept = kept_rows(rows, drop, extra)
                self.assertIs(type(mark), Mark)
                self.assertEqual((mark.points, mark.most), (
                    sum(rows[k][0] for k in kept) + extra, sum(rows[k][1] for k in kept)))
                self.assertEqual(Fraction(mark.points, mark.most), max(
                    share_of(rows, each, extra) for each in all_kept(rows, drop)))


class Papers(unittest.TestCase):
    def test_by_hand(self):
        self.assertEqual(paper_of(ROWS), ((0, 1, 2), 42, 60))
        self.assertEqual(paper_of(ROWS, 1), ((1, 2), 39, 50))
        self.assertEqual(paper_of(ROWS, 2, 5), ((1,), 14, 10))
        self.assertIs(is_paper(ROWS, ((0, 1, 2), 42, 60)), True)
        self.assertIs(is_paper(ROWS, ((1, 2), 39, 50), 1), True)
        self.assertIs(is_paper(ROWS, ((0, 2), 33, 50), 1), False)
        self.assertIs(is_paper(ROWS, ((0, 1), 12, 20), 1), False)

    def test_made_of_kept_rows_and_their_mark(self):
        for rows in many_rows():
            for drop, extra in itertools.product(range(6), EXTRAS):
                paper = paper_of(rows, drop, extra)
                mark = best_mark(rows, drop, extra)
                self.assertEqual(paper, (kept_rows(rows, drop, extra), mark.points, mark.most))
                self.assertEqual([type(part) for part in paper], [tuple, int, int])
                self.assertIs(is_paper(rows, paper, drop, extra), True)

    def test_a_paper_is_what_no_other_rows_help_more(self):
        for rows in many_rows():
            if len(rows) > 7:
                continue
            for drop, extra in itertools.product(range(6), (0, 3, 200)):
                most = max(share_of(rows, kept, extra) for kept in all_kept(rows, drop))
                for kept in all_kept(rows, drop):
                    totals = (sum(rows[k][0] for k in kept) + extra, sum(rows[k][1] for k in kept))
                    told = is_paper(rows, (kept, *totals), drop, extra)
                    self.assertIs(told, share_of(rows, kept, extra) == most, (rows, kept, drop, extra))

    def test_of_several_best_lots_each_has_a_paper(self):
        rows = ((1, 2), (2, 4), (0, 2))
        self.assertIs(is_paper(rows, ((0,), 1, 2), 2), True)
        self.assertIs(is_paper(rows, ((1,), 2, 4), 2), True)
        self.assertIs(is_paper(rows, ((2,), 0, 2), 2), False)
        for kept in itertools.combinations(range(12), 7):
            self.assertIs(is_paper(((3, 4),) * 12, (kept, 21, 28), 5), True)

    def test_none_by_one_place(self):
        rows, drop, extra = ((3, 10), (9, 10), (20, 40), (30, 40)), 2, 4
        paper = ((1, 3), 43, 50)
        self.assertEqual(paper_of(rows, drop, extra), paper)
        self.assertIs(is_paper(rows, paper, drop, extra), True)
        kept, points, most = paper
        bad_kept = [
            (3, 1), (1, 1), (3, 3), (1,), (3,), (), (1, 2, 3), (0, 1, 3), (0, 1, 2, 3), (0, 1), (0, 3), (1, 2), (2, 3),
            (1, 4), (-1, 1), (-3, -1), (1, -1), (1, 10 ** 29), (True, 3), (1, "3"), (1, None), ("1", "3"), (None, None),
            (1, (3,)), ((1, 3),), (1, [3]), (1.0, 3), (1, 3.0), [1, 3], {1: 3}, {1: 1, 3: 3}, {1, 3}, "13", 13, 1, None, True,
            range(1, 4, 2),
        ]
        bad_points = [42, 44, 0, -43, 39, 86, 43.0, "43", None, True, (43,), [43], {43: 43}, Fraction(43), 10 ** 29]
        bad_most = [49, 51, 0, -50, 100, 50.0, "50", None, True, (50,), [50], {50: 50}, Fraction(50), 10 ** 29]
        for thing in [(bad, points, most) for bad in bad_kept] + [(kept, bad, most) for bad in bad_points] + [
                (kept, points, bad) for bad in bad_most] + [
                (), paper[:1], paper[:2], paper + (0,), paper + paper, list(paper), {0: kept, 1: points, 2: most},
                (points, most, kept), (kept, most, points), (paper,), [paper], kept, Mark(43, 50), "paper", 43, None]:
            self.assertIs(is_paper(rows, thing, drop, extra), False, thing)

    def test_truths_are_no_numbers(self):
        self.assertIs(is_paper(((1, 1),), ((0,), 1, 1)), True)
        self.assertIs(is_paper(((0, 1),), ((0,), 0, 1)), True)
        for thing in (((False,), 1, 1), ((0,), True, 1), ((0,), 1, True), ((0,), True, True)):
            self.assertIs(is_paper(((1, 1),), thing), False, thing)
        self.assertIs(is_paper(((0, 1),), ((0,), False, 1)), False)

    def test_a_shortened_mark_is_none(self):
        rows = ((5, 10), (10, 20))
        self.assertIs(is_paper(rows, ((0, 1), 15, 30)), True)
        for mark in ((1, 2), (5, 10), (30, 60)):
            self.assertIs(is_paper(rows, ((0, 1), *mark)), False)

    def test_a_paper_of_another_asking_is_none(self):
        paper = paper_of(ROWS, 1, 4)
        self.assertIs(is_paper(ROWS, paper, 1, 4), True)
        for rows, drop, extra in ((ROWS, 1, 3), (ROWS, 0, 4), (ROWS, 2, 4), (ROWS[::-1], 1, 4), (ROWS[:2], 1, 4)):
            self.assertIs(is_paper(rows, paper, drop, extra), False)

    def test_all_numbers_kept_and_none_else(self):
        self.assertIs(is_paper(((0, 10),), ((0,), 0, 10), 5), True)
        self.assertIs(is_paper(((0, 10),), ((), 0, 0), 5), False)
        self.assertIs(is_paper(((0, 10), (1, 10)), ((), 0, 0), 2), False)
        self.assertIs(is_paper(((0, 10), (1, 10)), ((1,), 1, 10), 2), True)

    def test_of_anything(self):
        for thing in odd_things():
            self.assertIs(is_paper(ROWS, thing), False, thing)
            for parts in ((thing, 42, 60), ((0, 1, 2), thing, 60), ((0, 1, 2), 42, thing), ((0, 1, thing), 42, 60),
                          ((thing, 1, 2), 42, 60), (thing, thing, thing)):
                self.assertIs(is_paper(ROWS, parts), False, parts)


class Asked(unittest.TestCase):
    def test_left_out(self):
        rows = ((1, 10), (8, 10), (9, 10))
        for given in ((rows,), (rows, 0), (rows, 0, 0)):
            self.assertEqual(kept_rows(*given), (0, 1, 2))
            self.assertEqual(repr(best_mark(*given)), "Mark(18, 30)")
            self.assertEqual(paper_of(*given), ((0, 1, 2), 18, 30))
        self.assertIs(is_paper(rows, ((0, 1, 2), 18, 30)), True)
        self.assertIs(is_paper(rows, ((0, 1, 2), 20, 30), extra=2), True)
        self.assertEqual(paper_of(rows, extra=2), ((0, 1, 2), 20, 30))
        self.assertEqual(paper_of(rows, 1), ((1, 2), 17, 20))

    def test_extra_left_out_is_none_of_them(self):
        rows = ((8, 10), (1, 2))
        self.assertEqual((kept_rows(rows, 1), kept_rows(rows, 1, 0), kept_rows(rows, 1, 1)), ((0,), (0,), (1,)))
        self.assertEqual((repr(best_mark(rows, 1)), repr(best_mark(rows, 1, 1))), ("Mark(8, 10)", "Mark(2, 2)"))
        self.assertEqual((paper_of(rows, 1), paper_of(rows, 1, 1)), (((0,), 8, 10), ((1,), 2, 2)))
        self.assertEqual((is_paper(rows, ((0,), 8, 10), 1), is_paper(rows, ((1,), 2, 2), 1)), (True, False))

    def test_by_name_in_any_order(self):
        given = {"rows": ROWS, "drop": 1, "extra": 5}
        told = ((1, 2), 44, 50), ((1,), 14, 10)
        self.assertEqual((paper_of(ROWS, 1, 5), paper_of(ROWS, 2, 5)), told)
        for names in itertools.permutations(given):
            named = {name: given[name] for name in names}
            self.assertEqual(kept_rows(**named), (1, 2))
            self.assertEqual(repr(best_mark(**named)), "Mark(44, 50)")
            self.assertEqual(paper_of(**named), told[0])
        asked = {**given, "thing": told[0]}
        for names in itertools.permutations(asked):
            self.assertIs(is_paper(**{name: asked[name] for name in names}), True)
        self.assertIs(is_paper(thing=told[1], rows=ROWS, extra=5, drop=2), True)

    def test_told_the_same_again(self):
        for rows in many_rows()[::7]:
            for function in (kept_rows, best_mark, paper_of):
                self.assertEqual(repr(function(rows, 2, 3)), repr(function(rows, 2, 3)))


class Refused(unittest.TestCase):
    def check(self, kind, *by_place, **by_name):
        for function in ALL_FOUR:
            with self.assertRaises(kind) as seen:
                function(*by_place, **by_name)
            if kind is BadRule:
                self.assertEqual(seen.exception.name, "drop")

    def test_no_rows(self):
        for bad in bad_rows() + odd_things():
            self.check(NoRows, bad)
            self.check(NoRows, rows=bad, drop=1, extra=1)

    def test_bad_drop(self):
        for bad in odd_things() + [-1, 6, 7, 100, True, False, "1", "drop", 10 ** 29, -(10 ** 29)]:
            self.check(BadRule, ROWS, bad)
            self.check(BadRule, ROWS, drop=bad)

    def test_no_extra(self):
        for bad in odd_things() + [-1, -(10 ** 29), True, False, "1", (1,), [1]]:
            self.check(NoExtra, ROWS, 0, bad)
            self.check(NoExtra, ROWS, extra=bad)
            self.check(NoExtra, ROWS, extra=bad, drop=5)

    def test_great_extra_is_not_refused(self):
        for extra in EXTRAS + (10 ** 35,):
            self.assertEqual(best_mark(ROWS, 1, extra).points, sum(
                ROWS[k][0] for k in kept_rows(ROWS, 1, extra)) + extra)

    def test_the_first_of_several(self):
        good = {"rows": ROWS, "drop": 1, "extra": 1}
        bad = {"rows": ((11, 10),), "drop": 6, "extra": -1}
        due = {"rows": NoRows, "drop": BadRule, "extra": NoExtra}
        for many in (1, 2, 3):
            for chosen in itertools.combinations(good, many):
                given = {name: bad[name] if name in chosen else good[name] for name in good}
                self.check(due[chosen[0]], *given.values())
                for names in itertools.permutations(given):
                    self.check(due[chosen[0]], **{name: given[name] for name in names})

    def test_ahead_of_what_is_no_paper(self):
        for thing in odd_things() + [((0, 1, 2), 42, 60)]:
            for kind, given in ((NoRows, {"rows": ()}), (BadRule, {"drop": 6}), (NoExtra, {"extra": -1})):
                with self.assertRaises(kind):
                    is_paper(**{"rows": ROWS, "thing": thing, **given})

    def test_what_is_handed_in_is_left_as_it_was(self):
        for thing in ([(1, 10)], [[1, 10]], ([1, 10],), {"a": [1, {"b": (2, [3])}]}, ([0, 1, 2], 42, 60)):
            before = copy.deepcopy(thing)
            self.check(NoRows, thing)
            self.check(BadRule, ROWS, thing)
            self.check(NoExtra, ROWS, 0, thing)
            self.assertIs(is_paper(ROWS, thing), False)
            self.assertEqual(thing, before)


class Defined(unittest.TestCase):
    def test_in_their_file(self):
        for function in (kept_rows, best_mark, is_paper, paper_of):
            self.assertEqual(function.__module__, "classmarks.drops")


if __name__ == "__main__":
    unittest.main()
