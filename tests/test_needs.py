import copy
import itertools
import random
import time
import unittest
from fractions import Fraction

from classmarks.errors import NoBound, NoDay, NoSheet
from classmarks.marks import Mark
from classmarks.needs import needed
from classmarks.rules import Rules
from classmarks.sheets import Sheet
from tests.odd_things import odd_things
from tests.plain_term import plain_best

NAMES = ("sheet", "day", "bound")


def made(works, results, drop=0, rules=Rules()):
    return Sheet(tuple(works), (rules,) * len(works), tuple(results), drop)


def left_of(sheet, day):
    return [number for number, work in enumerate(sheet.works) if sheet.results[number] is None and work[0] > day]


def sheet_with(sheet, day, points):
    """Tell the sheet in which each work left has one try of so many points on the work's own day."""
    results = list(sheet.results)
    for number, had in zip(left_of(sheet, day), points):
        results[number] = ((had, sheet.works[number][0]),)
    return Sheet(sheet.works, sheet.rules, tuple(results), sheet.drop)


def reaches(sheet, bound):
    """Tell of a sheet whether its mark is no less than the bound's hundredths, by all droppings."""
    return plain_best(sheet.rows(), sheet.drop, sheet.extra()) >= Fraction(bound, 100)


def by_trying(sheet, day, bound):
    """Tell what is needed by trying all points one by one."""
    if len(sheet) == 0:
        return None
    tried = itertools.product(*[range(sheet.works[number][1] + 1) for number in left_of(sheet, day)])
    good = [(sum(points), points) for points in tried if reaches(sheet_with(sheet, day, points), bound)]
    return min(good, default=None)


def small_sheets(many, seed):
    """Tell sheets of few points, for which all can be tried."""
    chance = random.Random(seed)
    found = []
    for each in range(many):
        days = sorted([chance.choice((10, 20, 30, 40)) for work in range(chance.randint(1, 5))])
        works = [(day, chance.randint(1, 4), chance.random() < 0.2) for day in days]
        results = []
        for day, most, extra in works:
            tries = tuple([(chance.randint(0, most), day + late) for late in range(chance.randint(1, 3))])
            results.append(chance.choice((None, None, None, "excused", tries)))
        rules = tuple([Rules(chance.randint(0, 5), chance.choice((0, 10, 50)),
                             chance.choice(("best", "last", "mean"))) for work in works])
        found.append(Sheet(tuple(works), rules, tuple(results), chance.choice((0, 0, 1, 1, 2, 3, 4, 5))))
    return found


def great_sheets(many, seed):
    """Tell sheets of twelve works, most of them left."""
    chance = random.Random(seed)
    found = []
    for each in range(many):
        works = [(10 * number + 10, chance.choice((100, 100, 50, 7, 1)), chance.random() < 0.15) for number in range(12)]
        results = [chance.choice((None, None, None, "excused", ((chance.randint(0, work[1]), work[0]),)))
                   for work in works]
        found.append(made(works, results, chance.randint(0, 5)))
    return found


class Small(unittest.TestCase):
    def test_by_hand(self):
        works = ((10, 10, False), (20, 10, False), (30, 10, False))
        sheet = made(works, (((7, 10),), None, None))
        self.assertEqual(needed(sheet, 10), (8, (0, 8)))
        self.assertEqual(needed(sheet, 10, 80), (17, (7, 10)))
        self.assertEqual(needed(sheet, 10, 90), (20, (10, 10)))
        self.assertIsNone(needed(sheet, 10, 91))
        self.assertEqual(needed(sheet, 20), (8, (8,)))
        self.assertIsNone(needed(sheet, 20, 60))
        self.assertIsNone(needed(sheet, 30))
        self.assertEqual(needed(sheet, 30, 23), (0, ()))
        # One dropped: with the first row kept, 3 points more make 10 of 20.
        self.assertEqual(needed(made(works, (((7, 10),), None, None), 1), 10), (3, (0, 3)))
        self.assertEqual(needed(made(works, (((7, 10),), None, None), 2), 10), (0, (0, 0)))
        self.assertEqual(needed(made(works, (((7, 10),), None, None), 2), 10, 71), (8, (0, 8)))

    def test_the_first_points_of_the_least_sum(self):
        # The small work alone is kept, where its one point brings more than all.
        works = ((10, 1, False), (20, 10, False))
        self.assertEqual(needed(made(works, (None, None), 1), 0, 50), (1, (1, 0)))
        works = ((10, 10, False), (20, 10, False), (30, 10, False))
        self.assertEqual(needed(made(works, (None,) * 3, 1), 0, 50), (10, (0, 0, 10)))
        self.assertEqual(needed(made(works, (None,) * 3, 1), 0, 60), (12, (0, 2, 10)))
        self.assertEqual(needed(made(works, (None,) * 3, 2), 0, 60), (6, (0, 0, 6)))

    def test_extra_works_left(self):
        works = ((10, 10, False), (20, 3, True))
        self.assertEqual(needed(made(works, (((4, 10),), None)), 10), (1, (1,)))
        self.assertEqual(needed(made(works, (((4, 10),), None)), 10, 70), (3, (3,)))
        self.assertIsNone(needed(made(works, (((4, 10),), None)), 10, 71))
        self.assertEqual(needed(made(works, (None, None)), 0, 50), (5, (2, 3)))
        self.assertEqual(needed(made(works, (None, None)), 0, 100), (10, (7, 3)))
        self.assertEqual(needed(made(((10, 3, True), (20, 10, False)), (None, None)), 0, 100), (10, (0, 10)))

    def test_as_told_for_many_by_trying(self):
        for at, sheet in enumerate(small_sheets(100, 60)):
            for bound in (0, 50, 100, (at * 37) % 101):
                for day in (0, 20):
                    self.assertEqual(needed(sheet, day, bound), by_trying(sheet, day, bound), (str(sheet), day, bound))

    def test_each_drop(self):
        chance = random.Random(61)
        for drop in range(6):
            for again in range(4):
                works = [(10 * number + 10, chance.randint(1, 3), number == 4) for number in range(7)]
                results = [None] * 7
                results[chance.randrange(7)] = ((1, 10),)
                results[chance.randrange(7)] = "excused"
                results[0] = ((1, 10),)
                sheet = made(works, results, drop)
                for bound in (0, 34, 50, 67, 100):
                    self.assertEqual(needed(sheet, 0, bound), by_trying(sheet, 0, bound), (str(sheet), bound))

    def test_bound_left_out(self):
        self.assertEqual(needed(made(((10, 100, False),), (None,)), 0), (50, (50,)))
        for sheet in small_sheets(40, 62):
            self.assertEqual(needed(sheet, 0), needed(sheet, 0, 50))
            self.assertEqual(needed(sheet, 0), by_trying(sheet, 0, 50))


class Left(unittest.TestCase):
    def test_behind_the_day_only(self):
        works = ((10, 10, False), (20, 10, False), (30, 10, False))
        sheet = made(works, (None, None, None))
        self.assertEqual(needed(sheet, 9, 30), (9, (0, 0, 9)))
        self.assertEqual(needed(sheet, 10, 30), (9, (0, 9)))
        self.assertEqual(needed(sheet, 19, 30), (9, (0, 9)))
        self.assertEqual(needed(sheet, 20, 30), (9, (9,)))
        self.assertEqual(needed(sheet, 29, 30), (9, (9,)))
        self.assertIsNone(needed(sheet, 30, 30))
        self.assertIsNone(needed(sheet, 200, 30))
        self.assertEqual(needed(sheet, 30, 0), (0, ()))

    def test_day_0_and_day_200(self):
        sheet = made(((0, 10, False), (0, 10, False), (200, 10, False)), (None, None, None))
        self.assertEqual(needed(sheet, 0, 33), (10, (10,)))
        self.assertEqual(needed(sheet, 199, 33), (10, (10,)))
        self.assertIsNone(needed(sheet, 200, 33))
        self.assertIsNone(needed(sheet, 0, 34))

    def test_neither_excused_nor_handed_in(self):
        works = ((10, 10, False), (20, 10, False), (30, 10, False), (40, 10, True))
        sheet = made(works, ("excused", ((0, 25),), None, "excused"))
        self.assertEqual(needed(sheet, 0, 50), (10, (10,)))
        self.assertIsNone(needed(sheet, 0, 51))
        # Points of nought that were handed in are none that can be handed in again.
        self.assertIsNone(needed(made(works[:2], (((0, 10),), ((0, 20),))), 0, 1))
        self.assertEqual(needed(made(works[:2], (((0, 10),), ((0, 20),))), 0, 0), (0, ()))

    def test_no_work_left(self):
        works = ((10, 10, False), (20, 10, False))
        sheet = made(works, (((5, 10),), ((5, 20),)))
        self.assertEqual(needed(sheet, 0, 50), (0, ()))
        self.assertEqual(needed(sheet, 0, 0), (0, ()))
        self.assertIsNone(needed(sheet, 0, 51))

    def test_no_work_counted(self):
        for bound in (0, 1, 50, 100):
            for drop in range(6):
                self.assertIsNone(needed(made(((10, 10, False),), ("excused",), drop), 0, bound))
                self.assertIsNone(needed(made(((10, 10, True),), (None,), drop), 0, bound))
                self.assertIsNone(needed(made(((10, 10, True), (20, 10, False)), (None, "excused"), drop), 0, bound))

    def test_points_count_in_full_whatever_the_rules_of_the_work(self):
        for rules in (Rules(5, 100, "mean"), Rules(0, 100, "last"), Rules(1, 1, "best")):
            sheet = made(((10, 10, False), (20, 10, False)), (None, None), 0, rules)
            self.assertEqual(needed(sheet, 0, 100), (20, (10, 10)))
            self.assertEqual(needed(sheet, 15, 50), (10, (10,)))


class Great(unittest.TestCase):
    def test_twelve_works_of_a_hundred_points(self):
        works = [(10 * number + 10, 100, False) for number in range(12)]
        began = time.perf_counter()
        for drop in range(6):
            for bound in range(0, 101, 4):
                due = bound * (12 - drop)
                points = []
                for number in range(12):
                    points.append(min(100, due - sum(points)))
                told = needed(made(works, [None] * 12, drop), 0, bound)
                self.assertEqual(told, (due, tuple(points[::-1])), (drop, bound))
        self.assertLess(time.perf_counter() - began, 20)

    def check_least(self, sheet, bound):
        told = needed(sheet, 0, bound)
        left = left_of(sheet, 0)
        if told is None:
            if len(sheet) > 0:
                full = [sheet.works[number][1] for number in left]
                self.assertFalse(reaches(sheet_with(sheet, 0, full), bound))
            return
        many, points = told
        self.assertEqual((many, len(points)), (sum(points), len(left)))
        for number, had in zip(left, points):
            self.assertTrue(0 <= had <= sheet.works[number][1])
        self.assertTrue(reaches(sheet_with(sheet, 0, points), bound))
        for at in range(len(points)):
            if points[at] > 0:
                less = points[:at] + (points[at] - 1,) + points[at + 1:]
                self.assertFalse(reaches(sheet_with(sheet, 0, less), bound))

    def test_with_a_point_less_of_any_one_the_bound_is_missed(self):
        for at, sheet in enumerate(great_sheets(12, 63)):
            for bound in (0, 50, 100, (at * 13) % 101):
                self.check_least(sheet, bound)

    def test_with_a_point_less_however_it_is_spread_the_bound_is_missed(self):
        for sheet in small_sheets(60, 64):
            for bound in (30, 50, 80, 100):
                told = needed(sheet, 0, bound)
                if told is None:
                    continue
                self.assertTrue(reaches(sheet_with(sheet, 0, told[1]), bound))
                for points in itertools.product(*[range(sheet.works[number][1] + 1) for number in left_of(sheet, 0)]):
                    if sum(points) < told[0] or (sum(points) == told[0] and points < told[1]):
                        self.assertFalse(reaches(sheet_with(sheet, 0, points), bound))


class Handed(unittest.TestCase):
    def test_by_name_in_any_order(self):
        given = dict(zip(NAMES, (made(((10, 10, False),), (None,)), 5, 71)))
        for names in itertools.permutations(NAMES):
            self.assertEqual(needed(**{name: given[name] for name in names}), (8, (8,)))
        self.assertEqual(needed(day=5, sheet=given["sheet"]), (5, (5,)))
        self.assertEqual(needed(given["sheet"], bound=30, day=9), (3, (3,)))

    def test_kinds(self):
        told = needed(made(((10, 10, False),), (None,)), 5)
        self.assertEqual([type(thing) for thing in (told, told[0], told[1], told[1][0])], [tuple, int, tuple, int])

    def test_the_sheet_is_left_as_it_was_and_the_same_is_told_again(self):
        for sheet in small_sheets(30, 65):
            before = copy.deepcopy(vars(sheet))
            self.assertEqual(needed(sheet, 10, 60), needed(sheet, 10, 60))
            self.assertEqual(vars(sheet), before)


class Refused(unittest.TestCase):
    def check(self, kind, *by_place, **by_name):
        with self.assertRaises(kind):
            needed(*by_place, **by_name)

    def test_no_sheet(self):
        works = ((10, 10, False),)
        for bad in odd_things() + [works, (works, (Rules(),), (None,), 0), Sheet, Rules(), Mark(1), 0, 1, True]:
            self.check(NoSheet, bad, 5)
            self.check(NoSheet, bad, 5, 50)
            self.check(NoSheet, sheet=bad, day=5, bound=50)

    def test_no_day(self):
        sheet = made(((10, 10, False),), (None,))
        for bad in odd_things() + [-1, 201, True, False, 10 ** 29, -(10 ** 29), "5", sheet]:
            if type(bad) is not int or not 0 <= bad <= 200:
                self.check(NoDay, sheet, bad)
                self.check(NoDay, made(((10, 10, True),), ("excused",)), bad, 50)

    def test_no_bound(self):
        sheet = made(((10, 10, False),), (None,))
        for bad in odd_things() + [-1, 101, True, False, 10 ** 29, -(10 ** 29), "50", sheet]:
            self.check(NoBound, sheet, 5, bad)
            self.check(NoBound, sheet, 200, bound=bad)
            self.check(NoBound, made(((10, 10, True),), ("excused",)), 5, bad)

    def test_the_first_of_several(self):
        good = dict(zip(NAMES, (made(((10, 10, False),), (None,)), 5, 50)))
        bad = dict(zip(NAMES, ([], 201, 101)))
        due = dict(zip(NAMES, (NoSheet, NoDay, NoBound)))
        for many in (1, 2, 3):
            for chosen in itertools.combinations(NAMES, many):
                given = {name: bad[name] if name in chosen else good[name] for name in NAMES}
                self.check(due[chosen[0]], *given.values())
                for names in itertools.permutations(NAMES):
                    self.check(due[chosen[0]], **{name: given[name] for name in names})

    def test_what_is_handed_in_is_left_as_it_was(self):
        sheet = made(((10, 10, False),), (None,))
        for thing in ([1, [2]], ([1],), {"a": [1]}):
            before = copy.deepcopy(thing)
            self.check(NoSheet, thing, 5)
            self.check(NoDay, sheet, thing)
            self.check(NoBound, sheet, 5, thing)
            self.assertEqual(thing, before)


class Defined(unittest.TestCase):
    def test_in_its_file(self):
        self.assertEqual(needed.__module__, "classmarks.needs")


if __name__ == "__main__":
    unittest.main()
