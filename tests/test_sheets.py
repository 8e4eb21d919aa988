import copy
import itertools
import random
import unittest
from fractions import Fraction

from classmarks.drops import is_paper, kept_rows, paper_of
from classmarks.errors import BadRule, NoResult, NoRules, NoWorks
from classmarks.marks import Mark
from classmarks.rules import Rules
from classmarks.scores import score
from classmarks.sheets import Sheet
from tests.odd_things import odd_things
from tests.test_scores import bad_results
from tests.test_works import bad_works

NAMES = ("works", "rules", "results", "drop")
WORKS = ((10, 10, False), (10, 20, False), (30, 5, True), (50, 20, False), (60, 100, False))
RULES = (Rules(), Rules(5, 10), Rules(0, 0, "last"), Rules(1, 50, "mean"), Rules(2, 1, "last"))
RESULTS = (((3, 9),), ((20, 13), (16, 14)), ((5, 30), (4, 70)), "excused", None)
WORK = (10, 10, False)


def made(drop=1):
    return Sheet(WORKS, RULES, RESULTS, drop)


def plain(results, drop=0, extras=()):
    """Tell a sheet of works of ten points on day 10, with these results."""
    works = tuple([(10, 10, number in extras) for number in range(len(results))])
    return Sheet(works, (Rules(),) * len(works), tuple(results), drop)


def many_sheets():
    """Tell sheets of one to twelve works, each with Rules of its own."""
    chance = random.Random(50)
    found = []
    for many in list(range(1, 13)) * 6:
        days = sorted([chance.randint(0, 200) for work in range(many)])
        works = tuple([(day, chance.choice((1, 5, 10, 100)), chance.random() < 0.2) for day in days])
        rules = tuple([Rules(chance.randint(0, 5), chance.choice((0, 1, 10, 100)),
                             chance.choice(("best", "last", "mean"))) for work in works])
        results = []
        for day, most, extra in works:
            tried = sorted([min(200, chance.randint(0, day + 5)) for each in range(chance.randint(1, 3))])
            tries = tuple([(chance.randint(0, most), each) for each in tried])
            results.append(chance.choice((None, "excused", tries, tries, tries, tries)))
        found.append(Sheet(works, rules, tuple(results), chance.randint(0, 5)))
    return found


class Other:
    """A thing with a sheet's values that is no Sheet."""

    works, rules, results, drop = WORKS, RULES, RESULTS, 1


class Made(unittest.TestCase):
    def test_values(self):
        sheet = made()
        self.assertEqual((sheet.works, sheet.rules, sheet.results, sheet.drop), (WORKS, RULES, RESULTS, 1))
        self.assertEqual([type(thing) for thing in (sheet.works, sheet.rules, sheet.results, sheet.drop)],
                         [tuple, tuple, tuple, int])
        for name in NAMES:
            self.assertIn(name, vars(sheet))

    def test_drop_left_out(self):
        self.assertEqual(Sheet(WORKS, RULES, RESULTS).drop, 0)
        self.assertEqual(Sheet(WORKS, RULES, RESULTS), made(0))

    def test_each_drop(self):
        for drop in range(6):
            self.assertEqual(made(drop).drop, drop)

    def test_by_name_in_any_order(self):
        given = dict(zip(NAMES, (WORKS, RULES, RESULTS, 2)))
        for names in itertools.permutations(NAMES):
            self.assertEqual(Sheet(**{name: given[name] for name in names}), made(2))
        self.assertEqual(Sheet(WORKS, RULES, drop=2, results=RESULTS), made(2))
        self.assertEqual(Sheet(results=RESULTS, rules=RULES, works=WORKS), made(0))

    def test_one_and_twelve_works(self):
        for many in range(1, 13):
            sheet = plain([((number, 10),) for number in range(many)][:11] + [None] * (many - 11))
            self.assertEqual(len(sheet.works), many)
            self.assertEqual(len(sheet), many)

    def test_what_is_handed_in_is_not_kept_where_it_can_be_changed(self):
        rules = [Rules(1, 10, "best"), Rules(0, 10, "best")]
        results = (((10, 13),), ((10, 13),))
        sheet = Sheet((WORK, WORK), tuple(rules), results)
        before = str(sheet), sheet.rows()
        rules[0].cut, rules[1].second, rules[0].drop = 100, "mean", 5
        self.assertEqual((str(sheet), sheet.rows()), before)
        self.assertEqual(before, ("0:kept:7/10 1:kept:7/10", ((7, 10), (7, 10))))
        self.assertEqual(sheet.rules, (Rules(1, 10), Rules(0, 10)))

    def test_two_sheets_of_one_are_apart(self):
        rules = (Rules(0, 10),)
        one, other = (Sheet((WORK,), rules, (((10, 13),),)) for again in range(2))
        one.rules[0].cut = 0
        self.assertEqual((str(one), str(other), rules[0].cut), ("0:kept:10/10", "0:kept:7/10", 10))
        same = Sheet((WORK, WORK), (rules[0], rules[0]), (((10, 13),), ((10, 13),)))
        same.rules[0].cut = 0
        self.assertEqual(same.rows(), ((10, 10), (7, 10)))


class Rows(unittest.TestCase):
    def test_by_hand(self):
        # 20 three days late by 10 hundredths: 14; 16 four days late: 10. 4 forty days late, without a cut: 4.
        self.assertEqual(made().rows(), ((3, 10), (14, 20), (0, 100)))
        self.assertEqual(made().extra(), 4)
        self.assertEqual(len(made()), 3)

    def test_drop_leaves_no_row_out(self):
        for drop in range(6):
            self.assertEqual(made(drop).rows(), made(0).rows())
            self.assertEqual((made(drop).extra(), len(made(drop))), (4, 3))

    def test_excused_and_extra(self):
        tried = ((7, 10),)
        self.assertEqual(plain([tried, "excused", None]).rows(), ((7, 10), (0, 10)))
        self.assertEqual(plain([tried, "excused", None], extras=(0,)).rows(), ((0, 10),))
        self.assertEqual(plain([tried, "excused", None], extras=(0,)).extra(), 7)
        self.assertEqual(plain([tried, "excused", None], extras=(0, 1, 2)).rows(), ())
        self.assertEqual(plain([tried, "excused", None], extras=(0, 1, 2)).extra(), 7)
        self.assertEqual(plain([tried, tried, tried], extras=(0, 2)).extra(), 14)
        self.assertEqual(plain([tried, tried, tried]).extra(), 0)
        self.assertEqual(plain(["excused"]).rows(), ())

    def test_each_by_its_own_rules(self):
        tries = ((10, 10), (4, 12))
        for several in itertools.permutations((Rules(0, 0, "best"), Rules(0, 0, "last"), Rules(0, 50, "last"),
                                               Rules(0, 0, "mean"), Rules(0, 25, "mean"))):
            sheet = Sheet((WORK,) * 5, several, (tries,) * 5)
            self.assertEqual(sheet.rows(), tuple([(score(WORK, rules, tries), 10) for rules in several]))
        sheet = Sheet((WORK,) * 5, (Rules(0, 0, "best"), Rules(0, 0, "last"), Rules(0, 50, "last"),
                                    Rules(0, 0, "mean"), Rules(0, 25, "mean")), (tries,) * 5)
        self.assertEqual(sheet.rows(), ((10, 10), (4, 10), (0, 10), (7, 10), (6, 10)))

    def test_as_told_for_many(self):
        for sheet in many_sheets():
            scores = [score(*each) for each in zip(sheet.works, sheet.rules, sheet.results)]
            counted = [k for k, work in enumerate(sheet.works) if not work[2] and sheet.results[k] != "excused"]
            self.assertEqual(sheet.rows(), tuple([(scores[k], sheet.works[k][1]) for k in counted]))
            self.assertEqual(sheet.extra(), sum([points for points, work in zip(scores, sheet.works)
                                                 if work[2] and points is not None]))
            self.assertEqual(len(sheet), len(counted))
            self.assertEqual((type(sheet.rows()), type(sheet.extra()), type(len(sheet))), (tuple, int, int))


class MarkOfIt(unittest.TestCase):
    def test_by_hand(self):
        self.assertEqual(repr(made(0).mark()), "Mark(21, 130)")
        self.assertEqual(repr(made(1).mark()), "Mark(21, 30)")
        self.assertEqual(repr(made(2).mark()), "Mark(18, 20)")
        self.assertEqual(repr(made(5).mark()), "Mark(18, 20)")

    def test_none_where_no_work_is_counted(self):
        for drop in range(6):
            self.assertIsNone(plain(["excused"], drop).mark())
            self.assertIsNone(plain(["excused"] * 12, drop).mark())
            self.assertIsNone(plain([((9, 10),), None], drop, (0, 1)).mark())
            self.assertIsNone(plain(["excused", ((9, 10),)], drop, (1,)).mark())
            self.assertIsNone(plain(["excused"], drop, (0,)).mark())

    def test_of_nothing_handed_in(self):
        self.assertEqual(repr(plain([None]).mark()), "Mark(0, 10)")
        self.assertEqual(repr(plain([None] * 3, 2).mark()), "Mark(0, 10)")

    def test_extra_points_above_all(self):
        self.assertEqual(repr(plain([((10, 10),), ((7, 10),), ((8, 10),)], 0, (1, 2)).mark()), "Mark(25, 10)")

    def test_the_greatest_with_a_paper(self):
        for sheet in many_sheets():
            rows, extra = sheet.rows(), sheet.extra()
            if not rows:
                self.assertIsNone(sheet.mark())
                continue
            lots = itertools.combinations(rows, max(1, len(rows) - sheet.drop))
            best = max(Fraction(sum(row[0] for row in lot) + extra, sum(row[1] for row in lot)) for lot in lots)
            mark = sheet.mark()
            self.assertIs(type(mark), Mark)
            self.assertEqual(Fraction(mark.points, mark.most), best)
            kept = kept_rows(rows, sheet.drop, extra)
            self.assertTrue(is_paper(rows, (kept, mark.points, mark.most), sheet.drop, extra))
            self.assertEqual(paper_of(rows, sheet.drop, extra), (kept, mark.points, mark.most))

    def test_rules_of_a_work_drop_nothing(self):
        sheet = Sheet((WORK, WORK), (Rules(5), Rules(5)), (((10, 10),), None))
        self.assertEqual(repr(sheet.mark()), "Mark(10, 20)")


class Steps(unittest.TestCase):
    def test_by_hand(self):
        self.assertEqual(made(1).steps(), [
            (0, "kept", 3, 10), (1, "kept", 14, 20), (2, "extra", 4, 5), (3, "excused", None, 20),
            (4, "dropped", 0, 100)])
        self.assertEqual([step[1] for step in made(0).steps()], ["kept", "kept", "extra", "excused", "kept"])
        self.assertEqual([step[1] for step in made(2).steps()], ["dropped", "kept", "extra", "excused", "dropped"])

    def test_an_extra_work_that_is_excused(self):
        self.assertEqual(plain(["excused", ((1, 10),)], 0, (0,)).steps(),
                         [(0, "excused", None, 10), (1, "kept", 1, 10)])

    def test_an_extra_work_of_which_nothing_is_handed_in(self):
        self.assertEqual(plain([None, None], 0, (0,)).steps(), [(0, "extra", 0, 10), (1, "kept", 0, 10)])

    def test_where_no_work_is_counted(self):
        self.assertEqual(plain(["excused"]).steps(), [(0, "excused", None, 10)])
        self.assertEqual(plain([((9, 10),), "excused"], 3, (0, 1)).steps(),
                         [(0, "extra", 9, 10), (1, "excused", None, 10)])

    def test_one_work_stays(self):
        for drop in range(6):
            self.assertEqual(plain([None], drop).steps(), [(0, "kept", 0, 10)])
        self.assertEqual(plain([None, ((1, 10),), "excused"], 5).steps(),
                         [(0, "dropped", 0, 10), (1, "kept", 1, 10), (2, "excused", None, 10)])

    def test_as_told_for_many(self):
        for sheet in many_sheets():
            kept = list(kept_rows(sheet.rows(), sheet.drop, sheet.extra())) if sheet.rows() else []
            counted, told = 0, []
            for number, (work, rules, result) in enumerate(zip(sheet.works, sheet.rules, sheet.results)):
                points = score(work, rules, result)
                if points is None:
                    word = "excused"
                elif work[2]:
                    word = "extra"
                else:
                    word = "kept" if counted in kept else "dropped"
                    counted += 1
                told.append((number, word, points, work[1]))
            self.assertEqual(sheet.steps(), told)
            self.assertEqual({type(step) for step in sheet.steps()}, {tuple})

    def test_told_anew_each_time(self):
        sheet = made(1)
        first = sheet.steps()
        self.assertIs(type(first), list)
        first[0] = (0, "dropped", 0, 1)
        first.append(None)
        self.assertIsNot(sheet.steps(), first)
        self.assertEqual(sheet.steps()[0], (0, "kept", 3, 10))
        self.assertEqual(len(sheet.steps()), 5)
        self.assertEqual(str(sheet), str(made(1)))

    def test_each_counted_point_is_of_a_try(self):
        for sheet in many_sheets():
            for number, word, points, most in sheet.steps():
                result = sheet.results[number]
                if points:
                    self.assertLessEqual(points, max(tried for tried, day in result))
                if word != "excused" and result is None:
                    self.assertEqual(points, 0)


class Shown(unittest.TestCase):
    def test_as_the_document_shows_it(self):
        self.assertEqual(str(plain([((3, 10),), "excused"])), "0:kept:3/10 1:excused")

    def test_each_word(self):
        self.assertEqual(str(made(1)), "0:kept:3/10 1:kept:14/20 2:extra:4/5 3:excused 4:dropped:0/100")
        self.assertEqual(str(plain(["excused"])), "0:excused")
        self.assertEqual(str(plain(["excused", None], 0, (0, 1))), "0:excused 1:extra:0/10")

    def test_not_in_lowest_terms(self):
        self.assertEqual(str(plain([((10, 10),), ((5, 10),)])), "0:kept:10/10 1:kept:5/10")

    def test_twelve(self):
        text = " ".join([f"{number}:kept:0/10" for number in range(12)])
        self.assertEqual(str(plain([None] * 12)), text)

    def test_as_the_steps(self):
        for sheet in many_sheets():
            told = []
            for number, word, points, most in sheet.steps():
                told.append(f"{number}:{word}" + ("" if word == "excused" else f":{points}/{most}"))
            self.assertEqual(str(sheet), " ".join(told))


class Equal(unittest.TestCase):
    def check(self, one, other, same):
        for first, then in ((one, other), (other, one)):
            self.assertIs(first == then, same)
            self.assertIs(first != then, not same)

    def test_alike(self):
        self.check(made(1), made(1), True)
        sheet = made(3)
        self.check(sheet, sheet, True)
        anew = Sheet(tuple(list(WORKS)), tuple([Rules(each.drop, each.cut, each.second) for each in RULES]),
                     copy.deepcopy(RESULTS), 1)
        self.check(made(1), anew, True)

    def test_alike_but_for_one_value(self):
        works = ((9, 10, False),) + WORKS[1:]
        self.check(made(1), Sheet(works, RULES, RESULTS, 1), False)
        self.check(made(1), Sheet(WORKS[:4] + ((60, 100, True),), RULES, RESULTS, 1), False)
        self.check(made(1), Sheet(WORKS[:4] + ((60, 99, False),), RULES, RESULTS, 1), False)
        for rules in (Rules(3, 1, "last"), Rules(2, 2, "last"), Rules(2, 1, "mean")):
            self.check(made(1), Sheet(WORKS, RULES[:4] + (rules,), RESULTS, 1), False)
        for result in ("excused", ((0, 60),), ((1, 0),)):
            self.check(made(1), Sheet(WORKS, RULES, RESULTS[:4] + (result,), 1), False)
        self.check(made(1), made(0), False)
        self.check(made(1), made(2), False)

    def test_unlike_though_the_same_is_told(self):
        one = plain([((7, 10),)])
        self.check(one, plain([((7, 9),)]), False)
        self.check(one, plain([((7, 10),)], 1), False)
        self.check(one, plain([((6, 9), (7, 10))]), False)
        self.check(plain([None]), plain([((0, 10),)]), False)

    def test_of_fewer_works(self):
        self.check(plain([None]), plain([None, None]), False)

    def test_to_things_that_are_no_sheet(self):
        for thing in odd_things() + [(WORKS, RULES, RESULTS, 1), [WORKS, RULES, RESULTS, 1], str(made(1)), made(1).steps(),
                                     vars(made(1)), (made(1),), [made(1)], Sheet, Other(), Rules(), made(1).mark(), 3]:
            self.check(made(1), thing, False)

    def test_within_lists(self):
        self.assertIn(made(1), [None, made(1)])
        self.assertNotIn(made(1), [None, made(2), RULES])


class Refused(unittest.TestCase):
    def check(self, kind, *by_place, **by_name):
        with self.assertRaises(kind) as seen:
            Sheet(*by_place, **by_name)
        if kind is BadRule:
            self.assertEqual(seen.exception.name, "drop")

    def test_no_works(self):
        for bad in odd_things() + [(work,) for work in bad_works()] + [
                (WORK,) * 13, ((10, 10, False), (9, 10, False)), WORK, [WORK], {WORK: WORK}]:
            self.check(NoWorks, bad, (Rules(),), (None,))
            self.check(NoWorks, works=bad, rules=RULES, results=RESULTS, drop=1)

    def test_no_rules(self):
        rules = Rules()
        for bad in odd_things() + [rules, [rules, rules], (rules, [rules]), (rules, (rules,)), {rules.second: rules},
                                   (), (rules,), (rules,) * 3, ((rules, rules),), (Rules, Rules), (rules, Rules),
                                   (rules, (0, 0, "best")), (rules, repr(rules)), 0, True, repr((rules, rules))]:
            self.check(NoRules, (WORK, WORK), bad, (None, None))
        for bad in odd_things() + [(0, 0, "best"), 0, True, Rules, [rules], (rules,), Mark(1)]:
            self.check(NoRules, (WORK, WORK), (bad, rules), (None, None))
            self.check(NoRules, (WORK, WORK), (rules, bad), (None, None))

    def test_no_result(self):
        rules = (Rules(), Rules())
        for bad in odd_things() + [(), (None,), (None,) * 3, [None, None], ((None, None),), "excused", {0: None, 1: None},
                                   ("excused",), ((1, 10), (1, 10)), ((1, 10),), 0, True]:
            self.check(NoResult, (WORK, WORK), rules, bad)
        for bad in bad_results() + [thing for thing in odd_things() if thing is not None]:
            work = (50, 20, False)
            self.check(NoResult, (work, work), rules, (bad, None))
            self.check(NoResult, (work, work), rules, (None, bad))

    def test_a_result_of_another_work(self):
        works = ((10, 10, False), (10, 20, False))
        rules = (Rules(), Rules())
        self.assertEqual(str(Sheet(works, rules, (None, ((11, 10),)))), "0:kept:0/10 1:kept:11/20")
        self.check(NoResult, works, rules, (((11, 10),), None))

    def test_bad_drop(self):
        for bad in odd_things() + [-1, 6, 7, 100, True, False, "1", 10 ** 29, -(10 ** 29)]:
            self.check(BadRule, WORKS, RULES, RESULTS, bad)
            self.check(BadRule, WORKS, RULES, RESULTS, drop=bad)
            self.check(BadRule, (WORK,), (Rules(),), ("excused",), bad)

    def test_the_first_of_several(self):
        good = dict(zip(NAMES, (WORKS, RULES, RESULTS, 1)))
        bad = dict(zip(NAMES, (WORKS[::-1], RULES + (None,), RESULTS + (None,), 6)))
        due = dict(zip(NAMES, (NoWorks, NoRules, NoResult, BadRule)))
        for many in (1, 2, 3, 4):
            for chosen in itertools.combinations(NAMES, many):
                given = {name: bad[name] if name in chosen else good[name] for name in NAMES}
                self.check(due[chosen[0]], *given.values())
                for names in itertools.permutations(NAMES):
                    self.check(due[chosen[0]], **{name: given[name] for name in names})

    def test_what_is_handed_in_is_left_as_it_was(self):
        for thing in ([WORK], [[10, 10, False]], ([(1, 10)],), (None, [None]), {"a": [1, {"b": (2, [3])}]}):
            before = copy.deepcopy(thing)
            self.check(NoWorks, thing, (Rules(),), (None,))
            self.check(NoRules, (WORK,), thing, (None,))
            self.check(NoResult, (WORK,), (Rules(),), thing)
            self.check(BadRule, (WORK,), (Rules(),), (None,), thing)
            self.assertEqual(thing, before)


class AskedAgain(unittest.TestCase):
    def test_the_same(self):
        for sheet in many_sheets()[::5]:
            before = copy.deepcopy(vars(sheet))
            told = [[sheet.rows(), sheet.extra(), repr(sheet.mark()), sheet.steps(), len(sheet), str(sheet)]
                    for again in range(2)]
            self.assertEqual(told[0], told[1])
            self.assertEqual(vars(sheet), before)

    def test_rules_handed_in_are_left_as_they_were(self):
        before = [vars(rules).copy() for rules in RULES]
        sheet = made(2)
        sheet.steps()
        sheet.mark()
        self.assertEqual([vars(rules) for rules in RULES], before)


class Defined(unittest.TestCase):
    def test_in_its_file_with_its_methods(self):
        self.assertEqual(Sheet.__module__, "classmarks.sheets")
        for name in ("__init__", "__len__", "__eq__", "__str__", "rows", "extra", "mark", "steps"):
            self.assertIn(name, vars(Sheet))


if __name__ == "__main__":
    unittest.main()
