import copy
import itertools
import unittest

from classmarks.errors import BadRule, ClassError
from classmarks.rules import Rules
from tests.odd_things import odd_things

GOOD = {"drop": (0, 1, 4, 5), "cut": (0, 1, 10, 99, 100), "second": ("best", "last", "mean")}
DEFAULTS = {"drop": 0, "cut": 0, "second": "best"}
NAMES = ("drop", "cut", "second")


def bad_values(name):
    """Tell a new list of things that the rule of this name can't have."""
    bad = odd_things() + [True, False, -1, 10 ** 29, -(10 ** 29)]
    if name == "drop":
        return bad + [6, 7, 100, "best", "1"]
    if name == "cut":
        return bad + [101, 200, "best", "10"]
    return bad + [0, 1, 100, "Best", "BEST", "best ", " best", "bes", "best\n", "worst", "second", "l", "mea",
                  "best last", ("last",), ("best", "last", "mean"), ["mean"], {"mean": "mean"}]


def values_of(rules):
    return (rules.drop, rules.cut, rules.second)


class Made(unittest.TestCase):
    def check_kinds(self, rules):
        self.assertIs(type(rules.drop), int)
        self.assertIs(type(rules.cut), int)
        self.assertIs(type(rules.second), str)

    def test_of_every_good_values_by_place_and_by_name(self):
        for drop, cut, second in itertools.product(*GOOD.values()):
            for rules in (Rules(drop, cut, second), Rules(drop=drop, cut=cut, second=second),
                          Rules(drop, cut, second=second), Rules(drop, second=second, cut=cut)):
                self.assertEqual(values_of(rules), (drop, cut, second))
                self.check_kinds(rules)

    def test_by_name_in_any_order(self):
        given = {"drop": 5, "cut": 100, "second": "mean"}
        for names in itertools.permutations(NAMES):
            rules = Rules(**{name: given[name] for name in names})
            self.assertEqual(values_of(rules), (5, 100, "mean"))

    def test_left_out(self):
        self.assertEqual(values_of(Rules()), (0, 0, "best"))
        self.assertEqual(values_of(Rules(3)), (3, 0, "best"))
        self.assertEqual(values_of(Rules(3, 30)), (3, 30, "best"))
        self.assertEqual(values_of(Rules(drop=3)), (3, 0, "best"))
        self.assertEqual(values_of(Rules(cut=30)), (0, 30, "best"))
        self.assertEqual(values_of(Rules(second="last")), (0, 0, "last"))
        self.assertEqual(values_of(Rules(second="last", cut=30)), (0, 30, "last"))
        self.assertEqual(values_of(Rules(3, second="mean")), (3, 0, "mean"))

    def test_the_values_are_on_each_object(self):
        self.assertEqual(vars(Rules(1, 10, "last")), {"drop": 1, "cut": 10, "second": "last"})

    def test_two_are_apart(self):
        one, other = Rules(1, 10, "last"), Rules(2, 20, "mean")
        self.assertEqual((values_of(one), values_of(other)), ((1, 10, "last"), (2, 20, "mean")))


class Refused(unittest.TestCase):
    def check(self, name, *by_place, **by_name):
        with self.assertRaises(BadRule) as seen:
            Rules(*by_place, **by_name)
        self.assertEqual(seen.exception.name, name)
        self.assertIsInstance(seen.exception, ClassError)

    def test_one_beyond_each_bound(self):
        self.check("drop", -1)
        self.check("drop", 6)
        self.check("cut", 0, -1)
        self.check("cut", 0, 101)
        self.check("second", 0, 0, "")
        self.check("second", 0, 0, "worst")

    def test_truths(self):
        for truth in (True, False):
            self.check("drop", truth)
            self.check("cut", 0, truth)
            self.check("second", 0, 0, truth)

    def test_of_anything_by_place(self):
        for place, name in enumerate(NAMES):
            for bad in bad_values(name):
                given = [0, 0, "best"]
                given[place] = bad
                self.check(name, *given)

    def test_of_anything_by_name(self):
        for name in NAMES:
            for bad in bad_values(name):
                self.check(name, **{name: bad})
                self.check(name, **{**DEFAULTS, name: bad})

    def test_the_first_name_where_several_are_none(self):
        bad = {"drop": 6, "cut": 101, "second": "worst"}
        for many in (1, 2, 3):
            for chosen in itertools.combinations(NAMES, many):
                given = {name: bad[name] if name in chosen else DEFAULTS[name] for name in NAMES}
                self.check(chosen[0], *given.values())
                for names in itertools.permutations(NAMES):
                    self.check(chosen[0], **{name: given[name] for name in names})

    def test_the_first_name_by_name_with_some_left_out(self):
        self.check("drop", cut=101, drop=-1)
        self.check("drop", second=None, drop=None)
        self.check("cut", second=7, cut=None)

    def test_what_is_handed_in_is_left_as_it_was(self):
        for thing in ([1, [2, {"a": 3}]], {"a": [1, {"b": (2, [3])}]}, ([1], {"a": 2}), ["best"]):
            before = copy.deepcopy(thing)
            self.check("drop", thing, thing, thing)
            self.check("cut", 0, thing, thing)
            self.check("second", 0, 0, thing)
            self.assertEqual(thing, before)


class Equal(unittest.TestCase):
    def check_equal(self, one, other):
        for first, then in ((one, other), (other, one)):
            self.assertIs(first == then, True)
            self.assertIs(first != then, False)

    def check_unlike(self, one, other):
        for first, then in ((one, other), (other, one)):
            self.assertIs(first == then, False)
            self.assertIs(first != then, True)

    def test_alike(self):
        for values in itertools.product(*GOOD.values()):
            self.check_equal(Rules(*values), Rules(*values))
        self.check_equal(Rules(), Rules(0, 0, "best"))
        rules = Rules(1, 10, "last")
        self.check_equal(rules, rules)

    def test_a_text_made_anew_is_alike(self):
        self.check_equal(Rules(second="".join(["la", "st"])), Rules(second="last"))

    def test_alike_but_for_one_value(self):
        for name in NAMES:
            for one, other in itertools.combinations(GOOD[name], 2):
                for rest in ((0, 0, "best"), (5, 100, "mean"), (1, 1, "last")):
                    given = dict(zip(NAMES, rest))
                    self.check_unlike(Rules(**{**given, name: one}), Rules(**{**given, name: other}))

    def test_drop_and_cut_are_not_mixed_up(self):
        self.check_unlike(Rules(1, 2), Rules(2, 1))

    def test_what_is_no_rules(self):
        rules = Rules(1, 10, "last")
        for thing in odd_things() + [True, False, 0, 1, (1, 10, "last"), [1, 10, "last"], "last", repr(rules),
                                     {"drop": 1, "cut": 10, "second": "last"}, (rules,), [rules], Rules]:
            self.check_unlike(rules, thing)
            self.check_unlike(Rules(), thing)

    def test_a_thing_with_the_same_values_is_no_rules(self):
        class Other:
            drop, cut, second = 0, 0, "best"

        self.check_unlike(Rules(), Other())

    def test_within_tuples_and_lists(self):
        self.assertEqual((Rules(1), Rules(cut=2)), (Rules(1), Rules(cut=2)))
        self.assertNotEqual((Rules(1), Rules(cut=2)), (Rules(1), Rules(cut=3)))
        self.assertIn(Rules(1, 2, "mean"), [None, Rules(1, 2, "mean")])
        self.assertNotIn(Rules(1, 2, "mean"), [None, Rules(1, 2, "last")])

    def test_comparing_changes_neither(self):
        one, other = Rules(1, 10, "last"), Rules(2, 20, "mean")
        self.assertFalse(one == other)
        self.assertEqual((values_of(one), values_of(other)), ((1, 10, "last"), (2, 20, "mean")))


class Shown(unittest.TestCase):
    def test_repr(self):
        self.assertEqual(repr(Rules()), "Rules(drop=0, cut=0, second=best)")
        self.assertEqual(repr(Rules(1, 10)), "Rules(drop=1, cut=10, second=best)")
        self.assertEqual(repr(Rules(5, 100, "mean")), "Rules(drop=5, cut=100, second=mean)")
        self.assertEqual(repr(Rules(second="last", cut=7)), "Rules(drop=0, cut=7, second=last)")

    def test_repr_within_a_tuple(self):
        self.assertEqual(repr((Rules(1, 10), 3)), "(Rules(drop=1, cut=10, second=best), 3)")
        self.assertEqual(repr((Rules(),)), "(Rules(drop=0, cut=0, second=best),)")
        self.assertEqual(repr([Rules(2)]), "[Rules(drop=2, cut=0, second=best)]")

    def test_repr_again_is_the_same(self):
        rules = Rules(1, 10, "last")
        self.assertEqual(repr(rules), repr(rules))
        self.assertEqual(values_of(rules), (1, 10, "last"))


class Defined(unittest.TestCase):
    def test_in_its_file_with_its_methods(self):
        self.assertEqual(Rules.__module__, "classmarks.rules")
        for name in ("__init__", "__eq__", "__repr__"):
            self.assertIn(name, vars(Rules))


if __name__ == "__main__":
    unittest.main()
