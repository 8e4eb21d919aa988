import copy
import itertools
import unittest
from fractions import Fraction

from classmarks.errors import ClassError, NoMark
from classmarks.marks import Mark, is_above, ranked
from classmarks.rules import Rules
from tests.odd_things import odd_things

GREATEST = 10 ** 30 - 1
SHARES = [(points, most) for points in range(13) for most in range(1, 13)] + [
    (0, 1), (0, 100), (0, GREATEST), (1, GREATEST), (GREATEST, 1), (GREATEST, GREATEST), (GREATEST - 1, GREATEST),
    (GREATEST - 2, GREATEST - 1), (10 ** 29, 10 ** 29 + 1), (10 ** 29 + 1, 10 ** 29), (250, 100), (100, 100),
]


class Other:
    """A thing with a mark's values that is no Mark."""

    points, most = 3, 4


def no_marks():
    """Tell a new list of things that are no Mark."""
    return odd_things() + [0, 1, True, (3, 4), [3, 4], {"points": 3, "most": 4}, "3/4", "Mark(3, 4)", Fraction(3, 4),
                           Other(), Mark, Rules(), (Mark(3, 4),), [Mark(3, 4)], {0: Mark(3, 4)}]


class Made(unittest.TestCase):
    def test_values(self):
        for points, most in SHARES:
            for mark in (Mark(points, most), Mark(points=points, most=most), Mark(most=most, points=points),
                         Mark(points, most=most)):
                self.assertEqual(vars(mark), {"points": points, "most": most})
                self.assertEqual((type(mark.points), type(mark.most)), (int, int))

    def test_most_left_out(self):
        for mark in (Mark(7), Mark(points=7)):
            self.assertEqual(vars(mark), {"points": 7, "most": 100})
        self.assertEqual(vars(Mark(0)), {"points": 0, "most": 100})
        self.assertEqual(vars(Mark(GREATEST)), {"points": GREATEST, "most": 100})

    def test_more_figures_than_thirty_are_not_refused(self):
        mark = Mark(10 ** 40, 10 ** 50)
        self.assertEqual(str(mark), "1/10000000000")


class Refused(unittest.TestCase):
    def check(self, *by_place, **by_name):
        with self.assertRaises(NoMark) as seen:
            Mark(*by_place, **by_name)
        self.assertIsInstance(seen.exception, ClassError)

    def test_one_beyond_each_bound(self):
        self.check(-1)
        self.check(-1, 4)
        self.check(3, 0)
        self.check(0, 0)
        self.check(3, -1)
        self.check(-GREATEST, 1)
        self.check(1, -GREATEST)
        self.check(-1, -1)

    def test_of_anything(self):
        for bad in odd_things() + [True, False, "3", "4", [3], (3,), Mark(3, 4), Fraction(3), 3.0]:
            self.check(bad)
            self.check(bad, 4)
            self.check(3, bad)
            self.check(bad, bad)
            self.check(points=bad, most=4)
            self.check(most=bad, points=3)

    def test_what_is_handed_in_is_left_as_it_was(self):
        for thing in ([1, [2]], {"a": [1]}, ([1], 2)):
            before = copy.deepcopy(thing)
            self.check(thing, thing)
            self.check(3, thing)
            self.assertEqual(thing, before)


class Equal(unittest.TestCase):
    def test_as_their_shares(self):
        for one, other in itertools.product(SHARES, repeat=2):
            same = Fraction(*one) == Fraction(*other)
            self.assertIs(Mark(*one) == Mark(*other), same, (one, other))
            self.assertIs(Mark(*one) != Mark(*other), not same, (one, other))

    def test_equal_shares_made_otherwise(self):
        for one, other in (((3, 4), (6, 8)), ((0, 1), (0, 100)), ((75, 100), (3, 4)), ((1, 1), (GREATEST, GREATEST)),
                           ((2 * 10 ** 28, 10 ** 29), (1, 5))):
            self.assertEqual(Mark(*one), Mark(*other))
        self.assertEqual(Mark(75), Mark(3, 4))

    def test_to_things_that_are_no_mark(self):
        for thing in no_marks():
            for mark in (Mark(3, 4), Mark(0), Mark(1, 1)):
                self.assertIs(mark == thing, False)
                self.assertIs(thing == mark, False)
                self.assertIs(mark != thing, True)
                self.assertIs(thing != mark, True)

    def test_within_lists(self):
        self.assertIn(Mark(3, 4), [None, Mark(6, 8)])
        self.assertNotIn(Mark(3, 4), [None, Mark(6, 9), (3, 4)])
        self.assertEqual([("ann", Mark(1, 2), None)], [("ann", Mark(2, 4), None)])


class Shown(unittest.TestCase):
    def test_str_in_lowest_terms(self):
        for (points, most), text in (
                ((3, 4), "3/4"), ((6, 8), "3/4"), ((0, 7), "0/1"), ((0, 1), "0/1"), ((0, 100), "0/1"),
                ((100, 100), "1/1"), ((250, 100), "5/2"), ((200, 100), "2/1"), ((7, 13), "7/13"), ((1, 100), "1/100"),
                ((12, 18), "2/3"), ((18, 12), "3/2"), ((GREATEST, GREATEST), "1/1"), ((GREATEST, 1), f"{GREATEST}/1"),
                ((GREATEST - 1, GREATEST), f"{GREATEST - 1}/{GREATEST}"), ((GREATEST, 9), f"{GREATEST // 9}/1"),
                ((10 ** 29, 10 ** 28 * 4), "5/2")):
            self.assertEqual(str(Mark(points, most)), text)
        self.assertEqual(str(Mark(75)), "3/4")

    def test_str_as_told_for_all(self):
        for points, most in SHARES:
            share = Fraction(points, most)
            self.assertEqual(str(Mark(points, most)), f"{share.numerator}/{share.denominator}")

    def test_repr_as_made(self):
        for points, most in SHARES:
            self.assertEqual(repr(Mark(points, most)), f"Mark({points}, {most})")
        self.assertEqual(repr(Mark(6, 8)), "Mark(6, 8)")
        self.assertEqual(repr(Mark(6)), "Mark(6, 100)")
        self.assertEqual(repr([Mark(0, 5)]), "[Mark(0, 5)]")

    def test_showing_changes_nothing(self):
        mark = Mark(6, 8)
        self.assertEqual([str(mark), repr(mark), str(mark), repr(mark)], ["3/4", "Mark(6, 8)"] * 2)
        self.assertEqual(vars(mark), {"points": 6, "most": 8})


class Above(unittest.TestCase):
    def test_as_their_shares(self):
        for one, other in itertools.product(SHARES, repeat=2):
            self.assertIs(is_above(Mark(*one), Mark(*other)), Fraction(*one) > Fraction(*other), (one, other))

    def test_by_hand(self):
        self.assertIs(is_above(Mark(2, 3), Mark(3, 5)), True)
        self.assertIs(is_above(Mark(3, 5), Mark(2, 3)), False)
        self.assertIs(is_above(Mark(6, 8), Mark(3, 4)), False)
        self.assertIs(is_above(Mark(0, 8), Mark(0, 4)), False)
        self.assertIs(is_above(Mark(1, 100), Mark(0)), True)

    def test_by_name(self):
        self.assertIs(is_above(one=Mark(2, 3), other=Mark(1, 3)), True)
        self.assertIs(is_above(other=Mark(2, 3), one=Mark(1, 3)), False)

    def test_no_mark_of_either(self):
        for bad in no_marks():
            for given in ((bad, Mark(3, 4)), (Mark(3, 4), bad), (bad, bad)):
                with self.assertRaises(NoMark):
                    is_above(*given)


class Ranked(unittest.TestCase):
    def test_none_and_one(self):
        self.assertEqual(ranked([]), [])
        self.assertEqual(ranked([Mark(0)]), [0])
        self.assertEqual(ranked([Mark(GREATEST, 1)]), [0])

    def test_greatest_first(self):
        self.assertEqual(ranked([Mark(1, 2), Mark(3, 4), Mark(2, 3)]), [1, 2, 0])
        self.assertEqual(ranked([Mark(9, 100), Mark(1, 10), Mark(0, 1), Mark(5, 2)]), [3, 1, 0, 2])
        self.assertEqual(ranked(marks=[Mark(1, 2), Mark(3, 4)]), [1, 0])

    def test_of_equal_shares_the_lesser_number_first(self):
        self.assertEqual(ranked([Mark(1, 2), Mark(2, 4), Mark(50)]), [0, 1, 2])
        self.assertEqual(ranked([Mark(50), Mark(3, 4), Mark(1, 2), Mark(6, 8), Mark(2, 4)]), [1, 3, 0, 2, 4])
        self.assertEqual(ranked([Mark(0, 9), Mark(0, 1), Mark(0, GREATEST)]), [0, 1, 2])
        self.assertEqual(ranked([Mark(3, 4)] * 30), list(range(30)))

    def test_shares_that_are_close(self):
        close = [(GREATEST - 2, GREATEST - 1), (GREATEST - 1, GREATEST), (GREATEST, GREATEST - 1),
                 (GREATEST - 1, GREATEST - 2), (GREATEST, GREATEST)]
        for shares in itertools.permutations(close):
            told = [shares[number] for number in ranked([Mark(*share) for share in shares])]
            self.assertEqual(told, sorted(close, key=lambda share: -Fraction(*share)))

    def test_as_told_for_all(self):
        for step in (1, 5, 7, 11, 13, 25):
            shares = [SHARES[number * step % len(SHARES)] for number in range(len(SHARES))]
            told = sorted(range(len(shares)), key=lambda number: (-Fraction(*shares[number]), number))
            self.assertEqual(ranked([Mark(*share) for share in shares]), told)

    def test_many_great_ones(self):
        shares = [(10 ** 29 + 7919 * k % 899, 10 ** 29 + k % 5) for k in range(898)]
        told = sorted(range(898), key=lambda number: (-Fraction(*shares[number]), number))
        self.assertEqual(ranked([Mark(*share) for share in shares]), told)

    def test_the_list_told_is_the_askers_own(self):
        marks = [Mark(1, 2), Mark(3, 4)]
        first = ranked(marks)
        first.append(7)
        self.assertEqual(ranked(marks), [1, 0])
        self.assertEqual([repr(mark) for mark in marks], ["Mark(1, 2)", "Mark(3, 4)"])
        self.assertIsNot(ranked(marks), ranked(marks))
        nothing = []
        ranked(nothing).append(7)
        self.assertEqual((nothing, ranked(nothing)), ([], []))

    def test_no_list_of_marks(self):
        mark = Mark(3, 4)
        for bad in [thing for thing in odd_things() if thing != []] + [
                mark, (mark,), (mark, mark), {0: mark}, {"a": mark}, "Mark(3, 4)", [[mark]], [(mark, mark)], Mark]:
            with self.assertRaises(NoMark):
                ranked(bad)

    def test_one_in_the_list_is_none(self):
        for bad in no_marks():
            for marks in ([bad], [bad, Mark(3, 4)], [Mark(3, 4), bad], [Mark(1, 4), bad, Mark(3, 4)]):
                with self.assertRaises(NoMark):
                    ranked(marks)


class Defined(unittest.TestCase):
    def test_in_their_file_with_their_methods(self):
        for thing in (Mark, is_above, ranked):
            self.assertEqual(thing.__module__, "classmarks.marks")
        for name in ("__init__", "__eq__", "__str__", "__repr__"):
            self.assertIn(name, vars(Mark))


if __name__ == "__main__":
    unittest.main()
