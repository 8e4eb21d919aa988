import copy
import itertools
import random
import unittest
from fractions import Fraction

from classmarks.errors import NoMark, NoScale
from classmarks.marks import Mark
from classmarks.rules import Rules
from classmarks.scales import at_border, is_scale, letter_of
from tests.odd_things import odd_things

SCALE = (("A", 90), ("B", 75), ("C", 50), ("F", 0))
EIGHT = tuple(zip("ABCDEFGH", (100, 90, 80, 70, 60, 50, 1, 0)))
GOOD = (
    (("A", 0),), (("Z", 0),), (("A", 100), ("B", 0)), (("B", 1), ("A", 0)), SCALE, EIGHT,
    tuple(zip("ZYXWVUTS", (7, 6, 5, 4, 3, 2, 1, 0))),
)


def bad_steps():
    """Tell a new list of things that miss being the first of two steps (above ("B", 0)) by one part."""
    return [
        # Bounds one beyond, alike, lesser, and of other kinds.
        ("A", 101), ("A", -1), ("A", 0), ("A", 10 ** 29), ("A", -(10 ** 29)), ("A", True), ("A", False), ("A", None),
        ("A", "50"), ("A", [50]), ("A", (50,)), ("A", {}), ("A", 50.0),
        # Letters alike, small, none, of two signs, of other signs and kinds.
        ("B", 50), ("a", 50), ("z", 50), ("", 50), ("AA", 50), ("AB", 50), ("1", 50), (" ", 50), ("A ", 50), ("@", 50),
        ("[", 50), ("\n", 50), ("A\n", 50), (0, 50), (None, 50), (True, 50), (["A"], 50), (("A",), 50), ({}, 50),
        (b"A", 50), ([], 50), ({"A": 1}, 50),
        # Too few and too many parts, other kinds in the place of the tuple.
        (), ("A",), (50,), ("A", 50, 50), ("A", 50, None), (50, "A"), ["A", 50], {"A": 50}, {0: "A", 1: 50},
        "A5", "AB", "A", 50, None, True, (("A", 50),), [("A", 50)],
    ]


def bad_scales():
    """Tell a new list of things that miss being a scale by one part."""
    return [(step, ("B", 0)) for step in bad_steps()] + [
        # Without 0 at the end.
        (("A", 1),), (("A", 100),), (("A", 50), ("B", 1)), (("A", True),), (("A", False),), (("A", 50), ("B", False)),
        # Rising, alike, in another order.
        (("A", 0), ("B", 0)), (("A", 0), ("B", 50)), (("A", 50), ("B", 50), ("C", 0)), (("A", 50), ("B", 60), ("C", 0)),
        (("A", 50), ("B", 0), ("C", 0)), (("A", 50), ("B", 0), ("C", -1)), (("A", 0), ("B", 50), ("C", 0)),
        # A letter twice, next to one another or not.
        (("A", 50), ("A", 0)), (("A", 50), ("B", 20), ("A", 0)), (("A", 50), ("B", 20), ("B", 0)),
        # No step, nine steps.
        (), tuple(zip("ABCDEFGHI", (8, 7, 6, 5, 4, 3, 2, 1, 0))),
        # Other kinds in the place of the tuple.
        list(SCALE), [("A", 0)], {"A": 0}, {("A", 0): ("A", 0)}, ("A", 0), (SCALE,), "A", "AB", 0, True, None,
        tuple([list(step) for step in SCALE]), ("A", 90, "B", 0),
    ]


class IsScale(unittest.TestCase):
    def test_good_ones(self):
        for scale in GOOD:
            self.assertIs(is_scale(scale), True, scale)

    def test_one_to_eight_letters(self):
        for many in range(1, 10):
            scale = tuple(zip("ABCDEFGHI", range(many - 1, -1, -1)))
            self.assertIs(is_scale(scale), many <= 8, scale)

    def test_each_letter(self):
        for code in range(32, 127):
            self.assertIs(is_scale(((chr(code), 0),)), "A" <= chr(code) <= "Z", chr(code))

    def test_each_bound(self):
        for bound in range(-2, 104):
            self.assertIs(is_scale((("A", bound), ("B", 0))), 1 <= bound <= 100, bound)
            self.assertIs(is_scale((("A", bound),)), bound == 0, bound)

    def test_what_misses_by_one_part(self):
        for thing in bad_scales():
            self.assertIs(is_scale(thing), False, thing)

    def test_of_anything(self):
        for thing in odd_things():
            for whole in (thing, (thing,), (thing, ("B", 0)), (("A", 50), thing), ((thing, 0),), (("A", thing), ("B", 0))):
                self.assertIs(is_scale(whole), False, whole)

    def test_by_name_and_again(self):
        self.assertIs(is_scale(thing=SCALE), True)
        for thing in bad_scales():
            before = copy.deepcopy(thing)
            self.assertIs(is_scale(thing=thing), False)
            self.assertEqual(thing, before)


class Letter(unittest.TestCase):
    def test_just_at_above_and_below_each_bound(self):
        for mark, letter in ((Mark(90), "A"), (Mark(9, 10), "A"), (Mark(899999, 1000000), "B"),
                             (Mark(900001, 1000000), "A"), (Mark(3, 4), "B"), (Mark(749, 1000), "C"),
                             (Mark(751, 1000), "B"), (Mark(1, 2), "C"), (Mark(49), "F"), (Mark(499, 1000), "F"),
                             (Mark(0), "F"), (Mark(0, 1), "F"), (Mark(1, 10 ** 20), "F"), (Mark(100), "A"),
                             (Mark(25, 10), "A"), (Mark(10 ** 29, 1), "A"), (Mark(10 ** 29, 10 ** 29), "A")):
            self.assertEqual(letter_of(mark, SCALE), letter, mark)

    def test_the_first_that_is_reached(self):
        self.assertEqual(letter_of(Mark(100), EIGHT), "A")
        self.assertEqual(letter_of(Mark(99), EIGHT), "B")
        self.assertEqual(letter_of(Mark(1), EIGHT), "G")
        self.assertEqual(letter_of(Mark(1, 101), EIGHT), "H")
        self.assertEqual(letter_of(Mark(7), (("Q", 0),)), "Q")
        self.assertEqual(letter_of(Mark(50), (("Z", 50), ("A", 0))), "Z")

    def test_as_told_for_many(self):
        chance = random.Random(70)
        for again in range(300):
            bounds = sorted(chance.sample(range(1, 101), chance.randint(0, 7)), reverse=True) + [0]
            scale = tuple(zip(chance.sample("ABCDEFGHIJKLMNOPQRSTUVWXYZ", len(bounds)), bounds))
            most = chance.choice((1, 2, 3, 10, 100, 199, 1000))
            for points in [chance.randint(0, most + 1) for each in range(4)] + [bounds[0] * most // 100]:
                share = Fraction(points, most)
                due = next(letter for letter, bound in scale if share >= Fraction(bound, 100))
                mark = Mark(points, most)
                self.assertEqual(letter_of(mark, scale), due, (mark, scale))
                border = any(bound and share == Fraction(bound, 100) for letter, bound in scale)
                self.assertIs(at_border(mark, scale), border, (mark, scale))


class Border(unittest.TestCase):
    def test_just_at_a_bound(self):
        for mark in (Mark(90), Mark(9, 10), Mark(900, 1000), Mark(3, 4), Mark(75), Mark(1, 2), Mark(6, 12)):
            self.assertIs(at_border(mark, SCALE), True, mark)

    def test_a_little_above_and_below(self):
        for mark in (Mark(899, 1000), Mark(901, 1000), Mark(749, 1000), Mark(751, 1000), Mark(499999, 1000000),
                     Mark(500001, 1000000), Mark(89), Mark(91), Mark(100), Mark(10 ** 20 + 1, 2 * 10 ** 20)):
            self.assertIs(at_border(mark, SCALE), False, mark)

    def test_bound_0_is_no_border(self):
        for mark in (Mark(0), Mark(0, 1), Mark(0, 7)):
            for scale in (SCALE, EIGHT, (("A", 0),), (("A", 100), ("B", 0))):
                self.assertIs(at_border(mark, scale), False)

    def test_bound_1(self):
        for scale in (EIGHT, (("A", 1), ("B", 0))):
            for mark, border in ((Mark(1), True), (Mark(2), False), (Mark(1, 101), False), (Mark(1, 99), False)):
                self.assertIs(at_border(mark, scale), border, mark)

    def test_bound_100(self):
        scale = (("A", 100), ("B", 0))
        for mark, border in ((Mark(100), True), (Mark(7, 7), True), (Mark(99), False), (Mark(101), False),
                             (Mark(8, 7), False), (Mark(6, 7), False)):
            self.assertIs(at_border(mark, scale), border)
            self.assertEqual(letter_of(mark, scale), "B" if mark.points < mark.most else "A")


class Refused(unittest.TestCase):
    def check(self, kind, *by_place, **by_name):
        for ask in (letter_of, at_border):
            with self.assertRaises(kind):
                ask(*by_place, **by_name)

    def test_no_mark(self):
        for bad in odd_things() + [0, 1, True, Mark, Rules(), (50, 100), [Mark(50)], (Mark(50),), "1/2", SCALE]:
            self.check(NoMark, bad, SCALE)
            self.check(NoMark, scale=SCALE, mark=bad)

    def test_no_scale(self):
        for bad in odd_things() + bad_scales() + [Mark(50), Rules()]:
            self.check(NoScale, Mark(50), bad)
            self.check(NoScale, scale=bad, mark=Mark(0))

    def test_no_mark_ahead_of_no_scale(self):
        for bad in odd_things():
            self.check(NoMark, bad, bad)
            self.check(NoMark, scale=bad, mark=bad)
            self.check(NoMark, None, bad)

    def test_what_is_handed_in_is_left_as_it_was(self):
        for thing in ([1, [2]], list(SCALE), {"A": [0]}):
            before = copy.deepcopy(thing)
            self.check(NoMark, thing, SCALE)
            self.check(NoScale, Mark(50), thing)
            self.assertEqual(thing, before)
        mark = Mark(6, 8)
        self.assertEqual((letter_of(mark, SCALE), at_border(mark, SCALE), repr(mark)), ("B", True, "Mark(6, 8)"))


class Handed(unittest.TestCase):
    def test_by_name_in_any_order(self):
        for names in itertools.permutations((("mark", Mark(50)), ("scale", SCALE))):
            self.assertEqual(letter_of(**dict(names)), "C")
            self.assertIs(at_border(**dict(names)), True)

    def test_told_the_same_again(self):
        self.assertEqual([letter_of(Mark(80), SCALE) for again in range(3)], ["B"] * 3)
        self.assertEqual([at_border(Mark(80), SCALE) for again in range(3)], [False] * 3)


class Defined(unittest.TestCase):
    def test_in_its_file(self):
        for thing in (is_scale, letter_of, at_border):
            self.assertEqual(thing.__module__, "classmarks.scales")


if __name__ == "__main__":
    unittest.main()
