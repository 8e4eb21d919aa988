import copy
import itertools
import random
import unittest

from classmarks.alike import first_unlike, parted_by
from classmarks.errors import NoBound, NoRules
from classmarks.marks import Mark
from classmarks.rules import Rules
from classmarks.scores import late_points
from classmarks.sheets import Sheet
from tests.odd_things import odd_things

MOSTS = (1, 2, 3, 5, 99, 100)
CUTS = (0, 1, 2, 3, 9, 10, 11, 33, 34, 49, 50, 51, 66, 98, 99, 100)
BAD_NUMBERS = (-1, 0, 10 ** 29, -(10 ** 29), True, False, None, "5", (5,), [5], {5: 5}, {}, 5.0)


def by_trying(one, other, most):
    """Tell the first points and days at which two cuts leave unlike points, by trying all of them."""
    for points in range(most + 1):
        for days in range(201):
            left = [max(0, points - (points * cut * days) // 100) for cut in (one, other)]
            if left[0] != left[1]:
                return points, days
    return None


class FirstUnlike(unittest.TestCase):
    def test_by_hand(self):
        # One point is gone by a hundred hundredths: on day 1 by a cut of 100, on day 100 by 1.
        self.assertEqual(first_unlike(Rules(0, 100), Rules(0, 0)), (1, 1))
        self.assertEqual(first_unlike(Rules(0, 1), Rules(0, 0)), (1, 100))
        self.assertEqual(first_unlike(Rules(0, 1), Rules(0, 2)), (1, 50))
        # 280 and 308 hundredths of four points.
        self.assertEqual(first_unlike(Rules(0, 10), Rules(0, 11)), (4, 7))
        self.assertEqual(first_unlike(Rules(0, 99), Rules(0, 100)), (1, 1))
        # 2550 and 2601 hundredths.
        self.assertEqual(first_unlike(Rules(0, 50), Rules(0, 51)), (51, 1))

    def test_by_trying(self):
        for one, other in itertools.product(CUTS, CUTS):
            for most in (1, 7, 100):
                self.assertEqual(first_unlike(Rules(0, one), Rules(0, other), most), by_trying(one, other, most),
                                 (one, other, most))

    def test_cuts_near_one_another(self):
        for cut in range(100):
            for most in (2, 100):
                self.assertEqual(first_unlike(Rules(0, cut), Rules(0, cut + 1), most), by_trying(cut, cut + 1, most), cut)

    def test_each_most(self):
        for most in range(1, 101):
            self.assertEqual(first_unlike(Rules(0, 98), Rules(0, 97), most), by_trying(98, 97, most), most)
            self.assertEqual(first_unlike(Rules(0, 0), Rules(0, 1), most), (1, 100))

    def test_cuts_alike(self):
        for cut in (0, 1, 50, 100):
            for most in MOSTS:
                self.assertIsNone(first_unlike(Rules(0, cut, "last"), Rules(5, cut, "mean"), most))

    def test_a_most_and_cuts_by_which_they_are_never_unlike(self):
        # A single point is gone on the second day by each of these cuts, and on the first one by none.
        for one, other in itertools.combinations((50, 51, 66, 75, 98, 99), 2):
            self.assertIsNone(first_unlike(Rules(0, one), Rules(0, other), 1))
        self.assertIsNone(first_unlike(Rules(0, 97), Rules(0, 98), 30))
        self.assertIsNotNone(first_unlike(Rules(0, 97), Rules(0, 98), 100))
        self.assertEqual(first_unlike(Rules(0, 50), Rules(0, 49), 1), (1, 2))

    def test_the_other_way_about(self):
        for one, other in itertools.combinations(CUTS, 2):
            for most in (1, 4, 100):
                self.assertEqual(first_unlike(Rules(0, one), Rules(0, other), most),
                                 first_unlike(Rules(0, other), Rules(0, one), most))

    def test_drop_and_second_do_not_count(self):
        for one, other in ((Rules(5, 10, "mean"), Rules(0, 11, "last")), (Rules(0, 10), Rules(0, 11))):
            self.assertEqual(first_unlike(one, other), (4, 7))

    def test_most_left_out(self):
        self.assertIsNone(first_unlike(Rules(0, 97), Rules(0, 98), 30))
        self.assertEqual(first_unlike(Rules(0, 97), Rules(0, 98)), first_unlike(Rules(0, 97), Rules(0, 98), 100))
        self.assertEqual(first_unlike(Rules(0, 97), Rules(0, 98)), (34, 1))
        self.assertEqual([first_unlike(Rules(0, 98), Rules(0, 99), most) for most in (50, 51, 100)], [None, (51, 1), (51, 1)])

    def test_with_what_is_told_the_points_are_unlike_and_with_less_they_are_not(self):
        for one, other in itertools.combinations(CUTS, 2):
            points, days = first_unlike(Rules(0, one), Rules(0, other))
            self.assertNotEqual(late_points(points, days, one), late_points(points, days, other))
            for least in range(days):
                self.assertEqual(late_points(points, least, one), late_points(points, least, other))

    def test_kinds(self):
        told = first_unlike(Rules(0, 1), Rules())
        self.assertEqual([type(thing) for thing in (told,) + told], [tuple, int, int])


class PartedBy(unittest.TestCase):
    def test_each_name(self):
        for drop, cut, second in itertools.product((0, 1), (0, 1), ("best", "last")):
            names = [name for name, differs in (("cut", cut), ("drop", drop), ("second", second != "best")) if differs]
            self.assertEqual(parted_by(Rules(), Rules(drop, cut, second)), tuple(names))
            self.assertEqual(parted_by(Rules(drop, cut, second), Rules()), tuple(names))

    def test_cut_where_points_are_unlike_only(self):
        self.assertEqual(parted_by(Rules(0, 50), Rules(0, 99), 12, 1), ())
        self.assertEqual(parted_by(Rules(0, 50), Rules(0, 99), 12, 100), ("cut",))
        self.assertEqual(parted_by(Rules(0, 50), Rules(0, 99)), ("cut",))
        for one, other in itertools.product(CUTS, CUTS):
            for most in (1, 2, 30):
                due = () if by_trying(one, other, most) is None else ("cut",)
                self.assertEqual(parted_by(Rules(0, one), Rules(0, other), 12, most), due, (one, other, most))

    def test_drops_unlike_that_leave_out_as_many(self):
        # One row stays at least, so of three works 2, 3, 4 and 5 drop two.
        for many in range(1, 13):
            for one, other in itertools.product(range(6), range(6)):
                due = () if min(one, many - 1) == min(other, many - 1) else ("drop",)
                self.assertEqual(parted_by(Rules(one), Rules(other), many), due, (many, one, other))
        self.assertEqual(parted_by(Rules(2), Rules(5), 3), ())
        self.assertEqual(parted_by(Rules(2), Rules(5), 4), ("drop",))
        self.assertEqual(parted_by(Rules(0), Rules(5), 1), ())

    def test_second(self):
        for one, other in itertools.product(("best", "last", "mean"), repeat=2):
            for many, most in ((1, 1), (12, 100)):
                self.assertEqual(parted_by(Rules(0, 0, one), Rules(0, 0, other), many, most),
                                 () if one == other else ("second",))

    def test_left_out(self):
        self.assertEqual(parted_by(Rules(4), Rules(5)), ("drop",))
        self.assertEqual(parted_by(Rules(4, 97), Rules(5, 98)), ("cut", "drop"))
        self.assertEqual(parted_by(Rules(4, 97), Rules(5, 98), most=30), ("drop",))
        self.assertEqual(parted_by(Rules(4, 97), Rules(5, 98), many=5), ("cut",))
        self.assertEqual(parted_by(Rules(4, 97), Rules(5, 98), 5, 30), ())

    def test_without_a_name_each_sheet_has_the_same_mark(self):
        chance = random.Random(91)
        alike = 0
        while alike < 40:
            many, most = chance.randint(1, 4), chance.choice((1, 2, 20))
            second = chance.choice(("best", "last", "mean"))
            one, other = [Rules(chance.randint(0, 5), chance.choice((0, 50, 98, 99)), second) for each in range(2)]
            if parted_by(one, other, many, most):
                continue
            alike += 1
            for again in range(10):
                works = tuple([(10, most, chance.random() < 0.2) for work in range(many)])
                results = []
                for work in works:
                    days = sorted([chance.randint(8, 14) for each in range(chance.randint(1, 3))])
                    tries = tuple([(chance.randint(0, most), day) for day in days])
                    results.append(chance.choice((None, "excused", tries, tries)))
                marks = [Sheet(works, (rules,) * many, tuple(results), rules.drop).mark() for rules in (one, other)]
                self.assertEqual(marks[0], marks[1])

    def test_kinds(self):
        self.assertEqual([type(parted_by(Rules(), other)) for other in (Rules(), Rules(1))], [tuple, tuple])


class Refused(unittest.TestCase):
    GOOD = {"one": Rules(), "other": Rules(1, 1, "last"), "many": 12, "most": 100}
    BAD = {"one": None, "other": (0, 0, "best"), "many": 13, "most": 101}
    DUE = {"one": NoRules, "other": NoRules, "many": NoBound, "most": NoBound}

    def check(self, kind, ask, given):
        with self.assertRaises(kind):
            ask(*given.values())
        for names in (list(given), list(given)[::-1], sorted(given)):
            with self.assertRaises(kind):
                ask(**{name: given[name] for name in names})

    def both(self):
        return ((first_unlike, ("one", "other", "most")), (parted_by, ("one", "other", "many", "most")))

    def test_no_rules(self):
        for bad in odd_things() + [0, 1, True, Rules, Mark(1), (0, 0, "best"), [Rules()], (Rules(),), repr(Rules())]:
            for ask, names in self.both():
                for name in ("one", "other"):
                    self.check(NoRules, ask, {each: bad if each == name else self.GOOD[each] for each in names})

    def test_no_bound(self):
        for ask, names in self.both():
            for bad in odd_things() + list(BAD_NUMBERS):
                for name in names[2:]:
                    self.check(NoBound, ask, {each: bad if each == name else self.GOOD[each] for each in names})
            for name, beyond in (("many", 13), ("most", 101)):
                if name in names:
                    self.check(NoBound, ask, {each: beyond if each == name else self.GOOD[each] for each in names})

    def test_at_the_bounds(self):
        for many in range(-1, 15):
            if 1 <= many <= 12:
                self.assertEqual(type(parted_by(Rules(), Rules(), many)), tuple)
            else:
                self.check(NoBound, parted_by, {**self.GOOD, "many": many})
        for most in (1, 100):
            self.assertIsNone(first_unlike(Rules(), Rules(), most))
            self.assertEqual(parted_by(Rules(), Rules(), 1, most), ())

    def test_the_first_of_several(self):
        for ask, names in self.both():
            for many in range(1, len(names) + 1):
                for chosen in itertools.combinations(names, many):
                    given = {name: self.BAD[name] if name in chosen else self.GOOD[name] for name in names}
                    self.check(self.DUE[chosen[0]], ask, given)

    def test_what_is_handed_in_is_left_as_it_was(self):
        for thing in ([1, [2]], ([1],), {"a": [1]}):
            before = copy.deepcopy(thing)
            for ask, names in self.both():
                for name in names:
                    self.check(self.DUE[name], ask, {each: thing if each == name else self.GOOD[each] for each in names})
            self.assertEqual(thing, before)


class Handed(unittest.TestCase):
    def test_by_name_in_any_order(self):
        given = (("one", Rules(2, 50)), ("other", Rules(5, 99)), ("most", 1))
        for names in itertools.permutations(given):
            self.assertIsNone(first_unlike(**dict(names)))
        for names in itertools.permutations(given + (("many", 3),)):
            self.assertEqual(parted_by(**dict(names)), ())

    def test_rules_are_left_as_they_were_and_the_same_is_told_again(self):
        one, other = Rules(1, 10, "last"), Rules(2, 11, "mean")
        before = [dict(vars(rules)) for rules in (one, other)]
        self.assertEqual(first_unlike(one, other), first_unlike(one, other))
        self.assertEqual([parted_by(one, other) for again in range(2)], [("cut", "drop", "second")] * 2)
        self.assertEqual([vars(rules) for rules in (one, other)], before)

    def test_rules_that_were_changed_are_looked_at_as_they_are(self):
        one, other = Rules(), Rules()
        self.assertIsNone(first_unlike(one, other))
        other.cut = 100
        self.assertEqual(first_unlike(one, other), (1, 1))

    def test_defined_in_its_file(self):
        for thing in (first_unlike, parted_by):
            self.assertEqual(thing.__module__, "classmarks.alike")


if __name__ == "__main__":
    unittest.main()
