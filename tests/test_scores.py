import copy
import itertools
import unittest
from fractions import Fraction

from classmarks.errors import NoResult, NoRules, NoWork
from classmarks.rules import Rules
from classmarks.scores import is_result, late_points, score
from tests.odd_things import odd_things
from tests.test_works import bad_works

WORK = (50, 20, False)
GOOD_RESULTS = (
    None, "excused", ((0, 0),), ((20, 200),), ((20, 50),), ((7, 51), (7, 51)), ((1, 0), (20, 50), (0, 200)),
    ((5, 60), (4, 60), (3, 60)), ((0, 200), (0, 200), (20, 200)),
)


def bad_results():
    """Tell a new list of things that miss being a result of WORK by one part."""
    tries = [
        # One beyond each bound, and far beyond.
        (21, 50), (-1, 50), (20, 201), (20, -1), (10 ** 29, 50), (-(10 ** 29), 50), (20, 10 ** 29),
        # Truths, texts, None and other kinds in the place of a part.
        (True, 50), (False, 50), (1, True), (1, False), ("1", 50), (1, "50"), (None, 50), (1, None),
        ([1], 50), (1, [50]), ((1,), 50), (1, (50,)), ({}, 50), (1, {}), (1.0, 50), (1, 50.0), (b"1", 50),
        # Too few and too many parts.
        (), (1,), (1, 50, 50), (1, 50, None), (1, 50, False),
        # Other kinds in the place of the tuple, and the tuple within another one.
        [1, 50], {1: 50}, {0: 1, 1: 50}, "ab", "excused", None, 1, True, ((1, 50),), [(1, 50)],
    ]
    return [(bad,) for bad in tries] + [((1, 0), bad) for bad in tries] + [
        (bad, (1, 200)) for bad in tries] + [((1, 0), bad, (1, 200)) for bad in tries] + [
        # No try, four tries, days that fall.
        (), ((1, 50),) * 4, ((1, 50), (1, 51), (1, 52), (1, 53)), ((1, 51), (1, 50)),
        ((1, 50), (1, 52), (1, 51)), ((1, 51), (1, 50), (1, 52)), ((1, 200), (1, 0)), ((1, 10), (1, 9)),
        # A try or tries in another kind of thing.
        (1, 50), [(1, 50)], [[1, 50]], {(1, 50): (1, 50)}, {0: (1, 50)}, (((1, 50),),), [(1, 50), (1, 51)],
        # Texts that are nearly the one, and other kinds of it.
        "Excused", "EXCUSED", "excuse", "excused ", " excused", "excused\n", "", "None", ("excused",), ["excused"],
        {"excused": "excused"}, (None,), [None], 0, 1, True, False, 20, -1,
    ]


class LatePoints(unittest.TestCase):
    def test_by_hand(self):
        for points, days, cut, left in (
                (10, 1, 10, 9), (10, 3, 10, 7), (10, 10, 10, 0), (10, 11, 10, 0), (10, 9, 10, 1),
                (7, 1, 10, 7), (7, 2, 10, 6), (9, 1, 50, 5), (9, 2, 50, 0), (100, 1, 1, 99), (100, 99, 1, 1),
                (100, 100, 1, 0), (100, 101, 1, 0), (1, 99, 1, 1), (1, 100, 1, 0), (3, 33, 1, 3), (3, 34, 1, 2),
                (99, 1, 1, 99), (20, 4, 33, 0), (20, 3, 33, 1), (1, 1, 99, 1), (1, 1, 100, 0), (5, 1, 100, 0)):
            self.assertEqual(late_points(points, days, cut), left, (points, days, cut))

    def test_as_told_for_all(self):
        for points in (0, 1, 2, 3, 33, 50, 99, 100):
            for days in (0, 1, 2, 7, 50, 99, 100, 101, 199, 200):
                for cut in (0, 1, 2, 3, 10, 33, 50, 99, 100):
                    taken = Fraction(points * cut * days, 100)
                    left = points - taken.numerator // taken.denominator
                    self.assertEqual(late_points(points, days, cut), left if left > 0 else 0, (points, days, cut))

    def test_never_below_nought(self):
        for points, days, cut in itertools.product((0, 1, 50, 100), (0, 1, 100, 200), (0, 1, 50, 100)):
            told = late_points(points, days, cut)
            self.assertIs(type(told), int)
            self.assertTrue(0 <= told <= points)
        self.assertEqual(late_points(100, 200, 100), 0)
        self.assertEqual(late_points(1, 200, 1), 0)

    def test_without_a_cut_all(self):
        for points, days in itertools.product((0, 1, 57, 100), (0, 1, 99, 200)):
            self.assertEqual(late_points(points, days), points)
            self.assertEqual(late_points(points, days, 0), points)
            self.assertEqual(late_points(points, 0, 100), points)

    def test_by_name_in_any_order(self):
        given = {"points": 100, "days": 3, "cut": 7}
        for names in itertools.permutations(given):
            self.assertEqual(late_points(**{name: given[name] for name in names}), 79)
        self.assertEqual(late_points(100, cut=7, days=3), 79)
        self.assertEqual(late_points(days=3, points=100), 100)

    def test_great_points(self):
        self.assertEqual(late_points(10 ** 29, 1, 1), 10 ** 29 - 10 ** 27)
        self.assertEqual(late_points(10 ** 30 - 1, 1, 1), 10 ** 30 - 1 - (10 ** 28 - 1))


class IsResult(unittest.TestCase):
    def test_results(self):
        for thing in GOOD_RESULTS:
            self.assertIs(is_result(WORK, thing), True, thing)
            self.assertIs(is_result((0, 20, True), thing), True, thing)
            self.assertIs(is_result((200, 100, False), thing), True, thing)

    def test_a_text_made_anew(self):
        self.assertIs(is_result(WORK, "".join(["exc", "used"])), True)

    def test_points_to_the_most_of_the_work(self):
        for most in (1, 2, 99, 100):
            for points in range(-1, 103):
                good = 0 <= points <= most
                self.assertIs(is_result((50, most, False), ((points, 50),)), good, (points, most))
                self.assertIs(is_result((50, most, True), ((0, 0), (points, 0))), good, (points, most))

    def test_one_to_three_tries(self):
        for many in range(6):
            self.assertIs(is_result(WORK, ((20, 50),) * many), 1 <= many <= 3, many)
            self.assertIs(is_result(WORK, tuple((1, 10 * k) for k in range(many))), 1 <= many <= 3, many)

    def test_what_misses_by_one_part(self):
        for thing in bad_results():
            self.assertIs(is_result(WORK, thing), False, thing)

    def test_of_anything(self):
        for thing in odd_things():
            self.assertIs(is_result(WORK, thing), thing is None, thing)
            for tries in (((thing, 50),), ((1, thing),), (thing,), ((1, 0), thing), ((1, 0), (1, 1), thing)):
                self.assertIs(is_result(WORK, tries), False, tries)

    def test_no_work(self):
        for bad in bad_works() + odd_things():
            for thing in (None, "excused", ((1, 50),), (), [1], 7):
                with self.assertRaises(NoWork):
                    is_result(bad, thing)

    def test_by_name(self):
        self.assertIs(is_result(work=WORK, thing=((20, 50),)), True)
        self.assertIs(is_result(thing=((21, 50),), work=WORK), False)
        self.assertIs(is_result(WORK, thing="excused"), True)


class Score(unittest.TestCase):
    def test_excused_and_nothing(self):
        for second in ("best", "last", "mean"):
            for cut in (0, 100):
                for work in (WORK, (0, 1, True)):
                    self.assertIsNone(score(work, Rules(5, cut, second), "excused"))
                    told = score(work, Rules(5, cut, second), None)
                    self.assertEqual((told, type(told)), (0, int))

    def test_one_try_in_time(self):
        for second in ("best", "last", "mean"):
            for day in (0, 1, 49, 50):
                for points in (0, 1, 19, 20):
                    for cut in (0, 1, 100):
                        self.assertEqual(score(WORK, Rules(0, cut, second), ((points, day),)), points)

    def test_one_try_late(self):
        for second in ("best", "last", "mean"):
            self.assertEqual(score(WORK, Rules(0, 10, second), ((20, 51),)), 18)
            self.assertEqual(score(WORK, Rules(0, 10, second), ((20, 59),)), 2)
            self.assertEqual(score(WORK, Rules(0, 10, second), ((20, 60),)), 0)
            self.assertEqual(score(WORK, Rules(0, 10, second), ((20, 200),)), 0)
            self.assertEqual(score(WORK, Rules(0, 10, second), ((7, 51),)), 7)
            self.assertEqual(score(WORK, Rules(0, 0, second), ((20, 200),)), 20)
            self.assertEqual(score(WORK, Rules(0, 100, second), ((20, 51),)), 0)
            self.assertEqual(score((0, 100, False), Rules(0, 1, second), ((100, 99),)), 1)
            self.assertEqual(score((199, 100, True), Rules(0, 1, second), ((100, 200),)), 99)

    def test_three_tries_by_each_second(self):
        tries = ((20, 49), (5, 50), (12, 51))
        self.assertEqual(score(WORK, Rules(0, 0, "best"), tries), 20)
        self.assertEqual(score(WORK, Rules(0, 0, "last"), tries), 12)
        self.assertEqual(score(WORK, Rules(0, 0, "mean"), tries), 12)
        self.assertEqual(score(WORK, Rules(0, 10, "last"), tries), 11)
        self.assertEqual(score(WORK, Rules(0, 10, "mean"), tries), 12)
        self.assertEqual(score(WORK, Rules(0, 50, "mean"), tries), 10)

    def test_the_greatest_is_taken_behind_the_cut(self):
        tries = ((10, 50), (20, 59))
        self.assertEqual(score(WORK, Rules(0, 10, "best"), tries), 10)
        self.assertEqual(score(WORK, Rules(0, 10, "last"), tries), 2)
        self.assertEqual(score(WORK, Rules(0, 10, "mean"), tries), 6)
        self.assertEqual(score(WORK, Rules(0, 1, "best"), tries), 19)

    def test_the_last_of_one_day(self):
        self.assertEqual(score(WORK, Rules(second="last"), ((9, 50), (3, 50))), 3)
        self.assertEqual(score(WORK, Rules(second="last"), ((3, 50), (9, 50), (4, 50))), 4)

    def test_the_mean_is_a_whole_part(self):
        for tries, mean in ((((1, 50), (2, 50)), 1), (((0, 50), (1, 50)), 0), (((1, 50), (1, 50), (0, 50)), 0),
                            (((20, 50), (20, 50), (19, 50)), 19), (((1, 50), (1, 50), (1, 50)), 1),
                            (((3, 50), (5, 50)), 4), (((0, 50), (0, 50), (0, 50)), 0)):
            self.assertEqual(score(WORK, Rules(second="mean"), tries), mean, tries)

    def test_a_mean_of_cut_points_is_cut_each_by_each(self):
        # 7 and 7, each a day late: 0.7 is taken from each as 0, so 7; cut together it would be 1 of 14.
        self.assertEqual(score(WORK, Rules(0, 10, "mean"), ((7, 51), (7, 51))), 7)

    def test_as_told_for_all(self):
        days, points = (0, 49, 50, 51, 55, 200), (0, 3, 19, 20)
        single = list(itertools.product(points, days))
        results = [(one,) for one in single] + [
            pair for pair in itertools.product(single, repeat=2) if pair[0][1] <= pair[1][1]]
        for cut, second in itertools.product((0, 7, 100), ("best", "last", "mean")):
            for result in results:
                left = [max(0, number - number * cut * max(0, day - 50) // 100) for number, day in result]
                told = {"best": max(left), "last": left[-1], "mean": sum(left) // len(left)}[second]
                self.assertEqual(score(WORK, Rules(1, cut, second), result), told)

    def test_drop_and_extra_tell_nothing_of_it(self):
        for drop, extra in itertools.product(range(6), (True, False)):
            self.assertEqual(score((50, 20, extra), Rules(drop, 10, "best"), ((20, 53),)), 14)

    def test_by_name_in_any_order(self):
        given = {"work": WORK, "rules": Rules(0, 10), "result": ((20, 53),)}
        for names in itertools.permutations(given):
            self.assertEqual(score(**{name: given[name] for name in names}), 14)

    def test_told_the_same_again_and_left_as_it_was(self):
        rules, result = Rules(1, 10, "mean"), ((20, 49), (5, 50), (12, 51))
        self.assertEqual([score(WORK, rules, result) for again in range(3)], [12, 12, 12])
        self.assertEqual((vars(rules), result), (
            {"drop": 1, "cut": 10, "second": "mean"}, ((20, 49), (5, 50), (12, 51))))


class Refused(unittest.TestCase):
    def test_no_work(self):
        for bad in bad_works() + odd_things():
            with self.assertRaises(NoWork):
                score(bad, Rules(), None)

    def test_no_rules(self):
        for bad in odd_things() + [(0, 0, "best"), {"drop": 0, "cut": 0, "second": "best"}, repr(Rules()), [Rules()],
                                   (Rules(),), {"rules": Rules()}, Rules, 0, True, WORK]:
            with self.assertRaises(NoRules):
                score(WORK, bad, None)

    def test_no_result(self):
        for bad in bad_results() + [thing for thing in odd_things() if thing is not None]:
            with self.assertRaises(NoResult):
                score(WORK, Rules(), bad)

    def test_a_result_of_another_work(self):
        self.assertEqual(score((50, 20, False), Rules(), ((20, 50),)), 20)
        with self.assertRaises(NoResult):
            score((50, 19, False), Rules(), ((20, 50),))

    def test_the_first_of_several(self):
        good = {"work": WORK, "rules": Rules(), "result": None}
        bad = {"work": (50, 0, False), "rules": None, "result": ((21, 50),)}
        due = {"work": NoWork, "rules": NoRules, "result": NoResult}
        for many in (1, 2, 3):
            for chosen in itertools.combinations(good, many):
                given = {name: bad[name] if name in chosen else good[name] for name in good}
                with self.assertRaises(due[chosen[0]]):
                    score(*given.values())
                for names in itertools.permutations(given):
                    with self.assertRaises(due[chosen[0]]):
                        score(**{name: given[name] for name in names})

    def test_what_is_handed_in_is_left_as_it_was(self):
        for thing in ([(1, 50)], [[1, 50]], ([1, 50],), {"a": [1, {"b": (2, [3])}]}, ((1, [50]),)):
            before = copy.deepcopy(thing)
            self.assertIs(is_result(WORK, thing), False)
            for given, kind in (((thing, Rules(), None), NoWork), ((WORK, thing, None), NoRules),
                                ((WORK, Rules(), thing), NoResult)):
                with self.assertRaises(kind):
                    score(*given)
            self.assertEqual(thing, before)


class Defined(unittest.TestCase):
    def test_in_their_file(self):
        for function in (late_points, is_result, score):
            self.assertEqual(function.__module__, "classmarks.scores")


if __name__ == "__main__":
    unittest.main()
