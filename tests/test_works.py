import copy
import unittest

from classmarks.works import are_works, is_work
from tests.odd_things import odd_things

GOOD_WORKS = (
    (7, 10, False), (7, 10, True),
    (0, 10, False), (200, 10, False), (7, 1, False), (7, 100, True),
    (0, 1, True), (200, 100, False), (1, 1, False),
)


def bad_works():
    """Tell a new list of things that miss being a work by one part."""
    return [
        # One beyond each bound, and far beyond.
        (-1, 10, False), (201, 10, False), (7, 0, False), (7, 101, False),
        (-200, 10, True), (7, -10, True), (10 ** 29, 10, False), (7, 10 ** 29, False),
        (-(10 ** 29), 10, False),
        # Truths in the place of whole numbers, whole numbers in the place of truths.
        (True, 10, False), (False, 10, False), (7, True, False), (7, False, False), (True, True, True),
        (7, 10, 0), (7, 10, 1), (7, 10, 7),
        # Texts, None, and other kinds in the place of a part.
        ("7", 10, False), (7, "10", False), (7, 10, "False"), (7, 10, ""), ("", "", ""),
        (None, 10, False), (7, None, False), (7, 10, None), (None, None, None),
        ((7,), 10, False), (7, [10], False), (7, 10, [False]), (7, {10: 10}, False), (7, 10, {}),
        ([], 10, False), ({}, 10, False), (7, (), False), (7, 10, ()),
        (7.0, 10, False), (7, 10.0, False), (b"7", 10, False),
        # Too few and too many parts.
        (), (7,), (7, 10), (10, False), (7, 10, False, False), (7, 10, False, None),
        (7, 10, False, 7, 10, False),
        # Other kinds in the place of the tuple, and the tuple within another one.
        [7, 10, False], {7: 7, 10: 10, False: False}, {0: 7, 1: 10, 2: False}, "7 10 False", "abc",
        ((7, 10, False),), [(7, 10, False)], ((7, 10, False), (8, 10, False), (9, 10, False)),
        7, 10, True, False, None,
    ]


class IsWork(unittest.TestCase):
    def test_works_and_their_bounds(self):
        for work in GOOD_WORKS:
            self.assertIs(is_work(work), True, work)

    def test_what_misses_by_one_part(self):
        for thing in bad_works():
            self.assertIs(is_work(thing), False, thing)

    def test_of_anything(self):
        for thing in odd_things():
            self.assertIs(is_work(thing), False, thing)
            for parts in ((thing, 10, False), (7, thing, False), (7, 10, thing)):
                self.assertIs(is_work(parts), False, parts)

    def test_by_name(self):
        self.assertIs(is_work(thing=(7, 10, False)), True)
        self.assertIs(is_work(thing=[7, 10, False]), False)

    def test_told_the_same_again(self):
        for thing in GOOD_WORKS + tuple(bad_works()):
            self.assertIs(is_work(thing), is_work(thing))


class AreWorks(unittest.TestCase):
    def test_one_and_twelve(self):
        for many in range(1, 13):
            works = tuple((day, 10, False) for day in range(many))
            self.assertIs(are_works(works), True, works)

    def test_each_good_work_alone(self):
        for work in GOOD_WORKS:
            self.assertIs(are_works((work,)), True, work)

    def test_none_and_thirteen(self):
        self.assertIs(are_works(()), False)
        self.assertIs(are_works(((7, 10, False),) * 13), False)
        self.assertIs(are_works(tuple((day, 10, False) for day in range(13))), False)
        self.assertIs(are_works(((7, 10, False),) * 299), False)

    def test_days_alike(self):
        self.assertIs(are_works(((7, 10, False),) * 2), True)
        self.assertIs(are_works(((7, 10, False),) * 12), True)
        self.assertIs(are_works(((0, 1, False), (0, 100, True), (200, 1, True), (200, 100, False))), True)

    def test_parts_behind_the_day_may_fall(self):
        self.assertIs(are_works(((7, 100, True), (7, 1, False), (8, 99, True), (8, 2, False))), True)

    def test_days_that_fall(self):
        for days in ((1, 0), (200, 199), (0, 200, 199), (5, 4, 6), (1, 2, 3, 2, 4), (3, 2, 1), (10, 9)):
            works = tuple((day, 10, False) for day in days)
            self.assertIs(are_works(works), False, works)
        self.assertIs(are_works(((7, 10, False),) * 11 + ((6, 10, False),)), False)
        self.assertIs(are_works(((8, 10, False),) + ((7, 10, False),) * 11), False)

    def test_a_bad_work_at_each_place(self):
        for bad in bad_works() + odd_things():
            for works in ((bad,), (bad, (200, 10, False)), ((0, 10, False), bad),
                          ((0, 10, False), bad, (200, 10, False)), ((0, 10, False),) * 11 + (bad,)):
                self.assertIs(are_works(works), False, works)

    def test_other_kinds_in_the_place_of_the_tuple(self):
        work = (7, 10, False)
        for thing in ([work], [work, work], {0: work}, {work: work}, work, ((work,),), ((work, work),),
                      [[7, 10, False]], ([7, 10, False],), "works", 7, True, None):
            self.assertIs(are_works(thing), False, thing)

    def test_of_anything(self):
        for thing in odd_things() + bad_works():
            # A tuple of three works is no work, and so among the bad ones, but it is works.
            good = thing == ((7, 10, False), (8, 10, False), (9, 10, False)) or thing == ((7, 10, False),)
            self.assertIs(are_works(thing), good, thing)

    def test_by_name(self):
        self.assertIs(are_works(thing=((7, 10, False),)), True)
        self.assertIs(are_works(thing=[(7, 10, False)]), False)


class LeftAsItWas(unittest.TestCase):
    def test_what_was_handed_in(self):
        plain = [[7, 10, False], [[7, 10, False]], {"a": [1, {"b": (2, [3])}]}, ([7], 10, False),
                 ((7, 10, [False]), (8, {"a": 1}, False)), [(8, 10, False), (7, 10, False)]]
        for thing in plain + list(GOOD_WORKS) + bad_works():
            before = copy.deepcopy(thing)
            is_work(thing)
            are_works(thing)
            self.assertEqual(thing, before)
            self.assertEqual(repr(thing), repr(before))


class Defined(unittest.TestCase):
    def test_in_their_file(self):
        for function in (is_work, are_works):
            self.assertEqual(function.__module__, "classmarks.works")


if __name__ == "__main__":
    unittest.main()
