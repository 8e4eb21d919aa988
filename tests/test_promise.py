"""What the document promises over the whole program: its points 1, 2 and 3, sentence by sentence."""
import ast
import copy
import importlib
import inspect
import itertools
import random
import unittest
from pathlib import Path

from classmarks.alike import first_unlike, parted_by
from classmarks.desk import Desk
from classmarks.drops import best_mark, is_paper, kept_rows, paper_of
from classmarks.errors import (
    BadRule, ClassError, MissingPupil, NoBound, NoDay, NoExtra, NoLine, NoMark, NoPage, NoPages, NoResult, NoRows,
    NoRules, NoScale, NoSheet, NoText, NoWork, NoWorks, TooMany)
from classmarks.marks import Mark, is_above, ranked
from classmarks.moves import moved_by, overtakings
from classmarks.needs import needed
from classmarks.pages import are_pages
from classmarks.rules import Rules
from classmarks.scales import at_border, is_scale, letter_of
from classmarks.scores import is_result, late_points, score
from classmarks.sheets import Sheet
from classmarks.terms import pupils_of, rules_on, sheet_of
from classmarks.texts import pages_text, read_pages
from classmarks.works import are_works, is_work
from tests.odd_things import odd_things
from tests.plain_term import PUPILS, any_page, many_terms, plain_mark, plain_pupils, share

PACKAGE = Path(__file__).resolve().parent.parent / "classmarks"
NOTHING = inspect.Parameter.empty
WORKS = ((10, 10, False), (20, 20, True), (30, 100, False))
ROWS = ((1, 10), (20, 20), (3, 5))
SCALE = (("A", 90), ("B", 50), ("F", 0))
PAGES = ((3, ("rule", 0, "cut", 10)), (9, ("try", "ann", 0, 7, 12)), (9, ("try", "bob", 2, 50, 30)),
         (9, ("excuse", "ann", 1)))
PAGE = (9, ("try", "ann", 2, 70, 30))


def sheet():
    return Sheet(WORKS, (Rules(),) * 3, (((7, 9),), None, None), 1)


# Each function of the interface: its names with what is handed in, and what is told where that is none.
INTERFACE = (
    ("works", is_work, {"thing": WORKS[0]}, {}),
    ("works", are_works, {"thing": WORKS}, {}),
    ("rules", Rules, {"drop": 1, "cut": 10, "second": "last"}, {"drop": BadRule, "cut": BadRule, "second": BadRule}),
    ("scores", late_points, {"points": 10, "days": 3, "cut": 10}, {}),
    ("scores", is_result, {"work": WORKS[0], "thing": ((7, 9),)}, {"work": NoWork}),
    ("scores", score, {"work": WORKS[0], "rules": Rules(), "result": ((7, 9),)},
     {"work": NoWork, "rules": NoRules, "result": NoResult}),
    ("marks", Mark, {"points": 3, "most": 4}, {"points": NoMark, "most": NoMark}),
    ("marks", is_above, {"one": Mark(1), "other": Mark(2)}, {"one": NoMark, "other": NoMark}),
    ("marks", ranked, {"marks": [Mark(1), Mark(2)]}, {"marks": NoMark}),
    ("drops", kept_rows, {"rows": ROWS, "drop": 1, "extra": 2}, {"rows": NoRows, "drop": BadRule, "extra": NoExtra}),
    ("drops", best_mark, {"rows": ROWS, "drop": 1, "extra": 2}, {"rows": NoRows, "drop": BadRule, "extra": NoExtra}),
    ("drops", is_paper, {"rows": ROWS, "thing": ((1, 2), 25, 25), "drop": 1, "extra": 2},
     {"rows": NoRows, "drop": BadRule, "extra": NoExtra}),
    ("drops", paper_of, {"rows": ROWS, "drop": 1, "extra": 2}, {"rows": NoRows, "drop": BadRule, "extra": NoExtra}),
    ("sheets", Sheet, {"works": WORKS, "rules": (Rules(),) * 3, "results": (None, None, "excused"), "drop": 1},
     {"works": NoWorks, "rules": NoRules, "results": NoResult, "drop": BadRule}),
    ("needs", needed, {"sheet": sheet(), "day": 10, "bound": 60}, {"sheet": NoSheet, "day": NoDay, "bound": NoBound}),
    ("scales", is_scale, {"thing": SCALE}, {}),
    ("scales", letter_of, {"mark": Mark(60), "scale": SCALE}, {"mark": NoMark, "scale": NoScale}),
    ("scales", at_border, {"mark": Mark(60), "scale": SCALE}, {"mark": NoMark, "scale": NoScale}),
    ("pages", are_pages, {"works": WORKS, "thing": PAGES}, {"works": NoWorks}),
    ("terms", rules_on, {"works": WORKS, "pages": PAGES, "day": 10, "known": 9},
     {"works": NoWorks, "pages": NoPages, "day": NoDay, "known": NoDay}),
    ("terms", sheet_of, {"works": WORKS, "pages": PAGES, "pupil": "ann", "day": 10, "known": 9},
     {"works": NoWorks, "pages": NoPages, "day": NoDay, "known": NoDay, "pupil": MissingPupil}),
    ("terms", pupils_of, {"works": WORKS, "pages": PAGES, "known": 9},
     {"works": NoWorks, "pages": NoPages, "known": NoDay}),
    ("moves", moved_by, {"works": WORKS, "pages": PAGES, "page": PAGE, "day": 40},
     {"works": NoWorks, "pages": NoPages, "page": NoPage, "day": NoDay}),
    ("moves", overtakings, {"works": WORKS, "pages": PAGES, "known": 9},
     {"works": NoWorks, "pages": NoPages, "known": NoDay}),
    ("alike", first_unlike, {"one": Rules(), "other": Rules(0, 10), "most": 50},
     {"one": NoRules, "other": NoRules, "most": NoBound}),
    ("alike", parted_by, {"one": Rules(), "other": Rules(0, 10), "many": 3, "most": 50},
     {"one": NoRules, "other": NoRules, "many": NoBound, "most": NoBound}),
    ("texts", pages_text, {"works": WORKS, "pages": PAGES}, {"works": NoWorks, "pages": NoPages}),
    ("texts", read_pages, {"works": WORKS, "text": "9 excuse ann 1"}, {"works": NoWorks, "text": NoText}),
    ("desk", Desk, {"works": WORKS, "scale": SCALE}, {"works": NoWorks, "scale": NoScale}),
)
DEFAULTS = {
    Rules: {"drop": 0, "cut": 0, "second": "best"}, late_points: {"cut": 0}, Mark: {"most": 100},
    kept_rows: {"drop": 0, "extra": 0}, best_mark: {"drop": 0, "extra": 0}, is_paper: {"drop": 0, "extra": 0},
    paper_of: {"drop": 0, "extra": 0}, Sheet: {"drop": 0}, needed: {"bound": 50}, rules_on: {"known": 200},
    sheet_of: {"known": 200}, pupils_of: {"known": 200}, moved_by: {"day": 200}, overtakings: {"known": 200},
    first_unlike: {"most": 100}, parted_by: {"many": 12, "most": 100},
}
METHODS = {
    Rules: ("__init__", "__eq__", "__repr__"), Mark: ("__init__", "__eq__", "__str__", "__repr__"),
    Sheet: ("__init__", "__len__", "__eq__", "__str__", "rows", "extra", "mark", "steps"), Desk: ("__init__", "say"),
}
ASKED = ("count", "pages", "pupils", "rules 10 9", "mark ann 10 9", "letter ann 10 9", "steps ann 40 200",
         "need ann 10 9 60", "moves 9 excuse bob 0")


def shown(thing):
    """Tell what is told in a way in which it can be compared."""
    if isinstance(thing, (list, tuple)):
        return type(thing).__name__, [shown(part) for part in thing]
    if isinstance(thing, Sheet):
        return str(thing), repr(thing.rules), thing.works, thing.results, thing.drop
    if isinstance(thing, Desk):
        return [thing.say(line) for line in ("count", "pages", "rules 0 0")]
    return repr(thing)


def lists_in(thing):
    """Tell all lists, dicts and things with values within what is told."""
    found = [thing] if isinstance(thing, (list, dict, Rules, Mark, Sheet, Desk)) else []
    if isinstance(thing, (list, tuple)):
        for part in thing:
            found += lists_in(part)
    if isinstance(thing, (Rules, Mark, Sheet, Desk)):
        for part in vars(thing).values():
            found += lists_in(part)
    return found


def is_good(name, thing):
    """Tell whether an odd thing is a good one in the place of this name, after all."""
    return (name in ("pages", "thing") and thing == () and type(thing) is tuple) or (
        name == "second" and thing == "best") or (name == "marks" and thing == [] and type(thing) is list) or (
        name == "text" and thing == "") or (name in ("result", "results") and thing is None)


class HandedIn(unittest.TestCase):
    """[2]: places, names and the values that count where nothing is handed in."""

    def test_names_places_and_values(self):
        for module, ask, given, refusals in INTERFACE:
            parameters = inspect.signature(ask).parameters
            self.assertEqual(list(parameters), list(given), ask)
            for name, parameter in parameters.items():
                self.assertEqual(parameter.default, DEFAULTS.get(ask, {}).get(name, NOTHING), (ask, name))
                self.assertEqual(parameter.kind, inspect.Parameter.POSITIONAL_OR_KEYWORD)

    def test_each_is_defined_in_its_file_with_its_methods(self):
        for module, ask, given, refusals in INTERFACE:
            self.assertEqual(ask.__module__, "classmarks." + module)
            self.assertIs(getattr(importlib.import_module("classmarks." + module), ask.__name__), ask)
        for kind, names in METHODS.items():
            for name in names:
                self.assertIn(name, vars(kind))

    def test_by_place_and_by_name_the_same_is_told(self):
        for module, ask, given, refusals in INTERFACE:
            told = shown(ask(*given.values()))
            for names in itertools.islice(itertools.permutations(given), 24):
                self.assertEqual(shown(ask(**{name: given[name] for name in names})), told, ask)
            for many in range(len(given)):
                behind = {name: given[name] for name in list(given)[many:]}
                self.assertEqual(shown(ask(*list(given.values())[:many], **behind)), told, ask)

    def test_what_is_left_out_has_its_value(self):
        for module, ask, given, refusals in INTERFACE:
            usual = DEFAULTS.get(ask, {})
            for many in range(len(usual) + 1):
                for left_out in itertools.combinations(usual, many):
                    some = {name: given[name] for name in given if name not in left_out}
                    full = {name: usual[name] if name in left_out else given[name] for name in given}
                    self.assertEqual(shown(ask(**some)), shown(ask(**full)), (ask, left_out))


class WhatIsTold(unittest.TestCase):
    """[2]: nothing is changed, nothing kept, the asker's own, the same again."""

    def test_nothing_that_is_handed_in_is_changed(self):
        for module, ask, given, refusals in INTERFACE:
            before = shown(list(given.values()))
            ask(**given)
            self.assertEqual(shown(list(given.values())), before, ask)

    def test_asked_the_same_again_the_same_is_told(self):
        asked = [(ask, given) for module, ask, given, refusals in INTERFACE]
        first = [shown(ask(**given)) for ask, given in asked]
        for again in range(2):
            self.assertEqual([shown(ask(**given)) for ask, given in asked], first)
        self.assertEqual([shown(ask(**given)) for ask, given in asked[::-1]], first[::-1])

    def test_no_two_lists_are_one(self):
        for module, ask, given, refusals in INTERFACE:
            one, other = ask(**given), ask(**given)
            theirs = lists_in(list(given.values()))[1:]
            for mine in lists_in(one):
                self.assertFalse(any(mine is each for each in lists_in(other) + theirs), ask)
            for mine in lists_in(other):
                self.assertFalse(any(mine is each for each in theirs), ask)

    def test_what_was_told_may_be_changed(self):
        for module, ask, given, refusals in INTERFACE:
            before = shown(ask(**given))
            for mine in lists_in(ask(**given)):
                if isinstance(mine, list):
                    mine.clear()
                elif isinstance(mine, (Rules, Mark)):
                    for name in list(vars(mine)):
                        setattr(mine, name, None)
            self.assertEqual(shown(ask(**given)), before, ask)

    def test_lists_of_a_sheet(self):
        one = sheet()
        steps = one.steps()
        told = list(steps)
        steps.clear()
        self.assertEqual(one.steps(), told)
        self.assertIsNot(one.steps(), one.steps())
        self.assertIsNot(one.mark(), one.mark())

    def test_nothing_is_kept_where_it_can_be_changed(self):
        rules, mark = Rules(1, 10), Mark(1, 2)
        one = Sheet(WORKS, (rules,) * 3, (((7, 12),), None, None))
        before = shown(one)
        told = ranked([mark, Mark(1, 3)])
        rules.drop, rules.cut, rules.second, mark.points = 5, 100, "mean", 0
        self.assertEqual(shown(one), before)
        self.assertEqual(told, [0, 1])
        bad = ["ann", {"bob": ["cid"]}]
        for raised in (lambda: sheet_of(WORKS, PAGES, bad, 10), lambda: Desk(WORKS, SCALE).say("mark zoe 1 1")):
            with self.assertRaises(MissingPupil) as seen:
                raised()
            pupil = copy.deepcopy(seen.exception.pupil)
            bad[1]["bob"].append("dan")
            self.assertEqual(seen.exception.pupil, pupil)

    def test_a_desk_between_two_deeds(self):
        desk = Desk(WORKS, SCALE)
        for page in PAGES:
            desk.say("tell " + pages_text(WORKS, (page,)))
            first = [desk.say(line) for line in ASKED if page == PAGES[-1] or " ann" not in line]
            self.assertEqual([desk.say(line) for line in ASKED if page == PAGES[-1] or " ann" not in line], first)
        desk.say("undo")
        desk.say("tell " + pages_text(WORKS, PAGES[-1:]))
        self.assertEqual([desk.say(line) for line in ASKED], first)

    def test_no_clock_no_chance_no_files(self):
        for path in sorted(PACKAGE.glob("*.py")):
            tree = ast.parse(path.read_text(encoding="utf-8"))
            for node in ast.walk(tree):
                self.assertNotIsInstance(node, ast.Import, path.name)
                if isinstance(node, ast.ImportFrom):
                    self.assertEqual(node.module.split(".")[0], "classmarks", path.name)
                if isinstance(node, ast.Name):
                    self.assertNotIn(node.id, ("open", "print", "input", "hash", "id", "exec", "eval", "object"), path.name)


class RefusedWhatIsNone(unittest.TestCase):
    """[2]: refusals are due of a thing of anything, from the left, of truths and of days beyond their bounds."""

    def check(self, kind, ask, given):
        with self.assertRaises(kind) as seen:
            ask(**given)
        self.assertIs(type(seen.exception), kind, ask)
        with self.assertRaises(kind):
            ask(*given.values())

    def test_of_anything(self):
        for module, ask, given, refusals in INTERFACE:
            for name, kind in refusals.items():
                for thing in odd_things():
                    if not is_good(name, thing):
                        before = repr(thing)
                        self.check(kind, ask, {**given, name: thing})
                        self.assertEqual(repr(thing), before)

    def test_truths_are_no_whole_numbers(self):
        for module, ask, given, refusals in INTERFACE:
            for name, kind in refusals.items():
                for thing in (True, False):
                    self.check(kind, ask, {**given, name: thing})

    def test_numbers_of_thirty_figures(self):
        for number in (10 ** 29, 10 ** 30 - 1, -(10 ** 30) + 1):
            for module, ask, given, refusals in INTERFACE:
                for name, kind in refusals.items():
                    if number < 0 or name not in ("points", "most", "extra") or kind is NoBound:
                        self.check(kind, ask, {**given, name: number})
        self.assertEqual(str(Mark(10 ** 30 - 1, 10 ** 30 - 1)), "1/1")
        self.assertEqual(best_mark(ROWS, 5, 10 ** 30 - 1).points, 10 ** 30 + 2)

    def test_what_stands_further_to_the_left_is_looked_at_first(self):
        for module, ask, given, refusals in INTERFACE:
            for many in range(1, len(refusals) + 1):
                for chosen in itertools.combinations(refusals, many):
                    bad = {name: 2.5 if name != "pupil" else "zoe" for name in chosen}
                    self.check(refusals[chosen[0]], ask, {**given, **bad})

    def test_bad_rules_are_named_from_the_left(self):
        names = ("drop", "cut", "second")
        for many in (1, 2, 3):
            for chosen in itertools.combinations(names, many):
                with self.assertRaises(BadRule) as seen:
                    Rules(**{name: None for name in chosen})
                self.assertEqual(seen.exception.name, chosen[0])

    def test_days(self):
        for module, ask, given, refusals in INTERFACE:
            for name, kind in refusals.items():
                if kind is NoDay:
                    for day in range(-3, 205):
                        if 0 <= day <= 200:
                            try:
                                ask(**{**given, name: day})
                            except MissingPupil:
                                self.assertEqual((ask, day < 9), (sheet_of, True))
                        else:
                            self.check(NoDay, ask, {**given, name: day})

    def test_too_many_stands_between_page_and_day(self):
        forty = PAGES * 10
        for page, day, kind in ((PAGE, 5, TooMany), (PAGE, 201, TooMany), (None, 201, NoPage)):
            with self.assertRaises(kind):
                moved_by(WORKS, forty, page, day)

    def test_lines_of_anything(self):
        for thing in odd_things():
            with self.assertRaises(NoLine):
                Desk(WORKS, SCALE).say(thing)

    def test_all_refusals_but_one_are_under_class_error(self):
        for module, ask, given, refusals in INTERFACE:
            for kind in refusals.values():
                self.assertEqual(kind.__bases__, (LookupError,) if kind is MissingPupil else (ClassError,))


class OfADropping(unittest.TestCase):
    """[3]: those works are dropped whose leaving helps most, and a paper shows it."""

    def test_of_each_sheet_of_a_term(self):
        for works, pages in many_terms(40, 1):
            for pupil in plain_pupils(pages):
                one = sheet_of(works, pages, pupil, 200)
                self.assertEqual(share(one.mark()), plain_mark(works, pages, pupil, 200))
                rows, drop, extra = one.rows(), one.drop, one.extra()
                if not rows:
                    continue
                paper = paper_of(rows, drop, extra)
                self.assertIs(is_paper(rows, paper, drop, extra), True)
                self.assertEqual(paper[1:], (one.mark().points, one.mark().most))
                kept, points, most = paper
                for lot in itertools.combinations(range(len(rows)), len(kept)):
                    had, by = sum(rows[at][0] for at in lot) + extra, sum(rows[at][1] for at in lot)
                    self.assertLessEqual(had * most, points * by)
                    if had * most < points * by:
                        self.assertIs(is_paper(rows, (lot, had, by), drop, extra), False)


class OfANeed(unittest.TestCase):
    """[3]: with what is needed the bound is reached, with one point less it isn't."""

    def test_in_a_term(self):
        chance = random.Random(3)
        works = ((10, 3, False), (20, 2, True), (30, 3, False), (40, 2, False))
        for again in range(60):
            pages = tuple([any_page(chance, works) for page in range(12)])
            for pupil in plain_pupils(pages):
                one = sheet_of(works, pages, pupil, 200)
                for day, bound in ((0, 60), (15, 90), (30, 40)):
                    self.check_need(one, day, bound)

    def check_need(self, one, day, bound):
        left = [number for number, work in enumerate(one.works) if one.results[number] is None and work[0] > day]
        told = needed(one, day, bound)
        reached = []
        for points in itertools.product(*[range(one.works[number][1] + 1) for number in left]):
            results = list(one.results)
            for number, had in zip(left, points):
                results[number] = ((had, one.works[number][0]),)
            mark = Sheet(one.works, one.rules, tuple(results), one.drop).mark()
            if mark is not None and not is_above(Mark(bound), mark):
                reached.append((sum(points), points))
        self.assertEqual(told, min(reached, default=None))


class OfPages(unittest.TestCase):
    """[3]: order, repeats and late tellings of tries and excuses change no mark behind all tellings."""

    def marks(self, works, pages, day):
        """Tell the share of each pupil's mark on a day, None where there is none."""
        found = {}
        for pupil in pupils_of(works, pages):
            one = sheet_of(works, pages, pupil, day)
            found[pupil] = None if one is None else share(one.mark())
        return found

    def test_in_any_order_each_perhaps_several_times(self):
        chance = random.Random(4)
        for works, pages in many_terms(30, 4, 20):
            mixed = list(pages) + [chance.choice(pages) for page in pages]
            chance.shuffle(mixed)
            for day in (20, 61, 200):
                self.assertEqual(self.marks(works, tuple(mixed), day), self.marks(works, pages, day))
            self.assertEqual(overtakings(works, tuple(mixed)), overtakings(works, pages))

    def test_told_late_or_in_time(self):
        chance = random.Random(5)
        for works, pages in many_terms(60, 5, 40):
            # Each page gets a day of its own or keeps its day, so no two of them become one.
            pages = tuple(sorted(set(pages)))
            days = chance.sample(range(201), len(pages))
            late = tuple([page if page[1][0] == "rule" else (day, page[1]) for day, page in zip(days, pages)])
            self.assertEqual(len(set(late)), len(pages))
            for day in (20, 45, 200):
                self.assertEqual(self.marks(works, late, day), self.marks(works, pages, day))
            self.assertEqual(overtakings(works, late), overtakings(works, pages))

    def test_a_page_moves_just_the_marks_that_are_told(self):
        chance = random.Random(6)
        for works, pages in many_terms(40, 6, 39):
            page = any_page(chance, works, PUPILS + ("new",))
            for day in (20, 200):
                ahead, behind = self.marks(works, pages, day), self.marks(works, pages + (page,), day)
                moved = {pupil: (share(before), share(after)) for pupil, before, after in moved_by(works, pages, page, day)}
                for pupil in behind:
                    marks = ahead.get(pupil), behind[pupil]
                    self.assertEqual(moved.get(pupil, marks), marks)
                    self.assertEqual(pupil in moved, marks[0] != marks[1])
                self.assertLessEqual(set(moved), set(behind))

    def test_each_point_that_is_counted_is_of_a_try(self):
        for works, pages in many_terms(40, 7):
            for pupil in plain_pupils(pages):
                one = sheet_of(works, pages, pupil, 200)
                for number, word, points, most in one.steps():
                    tried = [deed[3] for told, deed in pages if deed[:3] == ("try", pupil, number)]
                    self.assertLessEqual(points or 0, max(tried, default=0))
                    for had, day in () if one.results[number] in (None, "excused") else one.results[number]:
                        self.assertIn(("try", pupil, number, had, day), [deed for told, deed in pages])
                if one.mark() is not None:
                    self.assertEqual(one.mark().points, one.extra() + sum(
                        [points for number, word, points, most in one.steps() if word == "kept"]))


class TheWhole(unittest.TestCase):
    """[1]: all of it in one term."""

    WORKS = ((10, 20, False), (40, 50, False), (70, 10, True), (100, 100, False))
    LINES = (
        "0 rule 0 cut 5", "10 try ann 0 18 10", "12 try bob 0 20 12", "11 try cid 0 9 9", "20 try cid 0 16 20",
        "40 try ann 1 20 40", "40 try bob 1 30 40", "45 excuse cid 1", "60 rule 40 drop 1", "60 rule 60 second last",
        "70 try ann 2 6 70", "90 try bob 1 45 80",
    )

    def desk(self):
        desk = Desk(self.WORKS, SCALE)
        for line in self.LINES:
            self.assertEqual(desk.say("tell " + line), "ok")
        return desk

    def test_marks_by_their_rules(self):
        desk = self.desk()
        # Ten hundredths of 20 are gone by two late days, five tenths of 16 by ten.
        for line, answer in (
                ("mark ann 10 200", "9/10"), ("mark bob 12 200", "9/10"), ("mark bob 11 200", "0/1"),
                ("steps cid 20 200", "0:kept:9/20"), ("steps ann 40 59", "0:kept:18/20 1:kept:20/50"),
                ("steps ann 40 60", "0:kept:18/20 1:dropped:20/50"), ("letter ann 40 200", "A!"),
                ("letter ann 40 59", "B"), ("letter cid 20 200", "F"), ("steps cid 45 200", "0:kept:9/20 1:excused"),
                ("steps cid 45 44", "0:kept:9/20 1:kept:0/50"), ("rules 40 60", "Rules(drop=1, cut=5, second=best)"),
                ("rules 60 60", "Rules(drop=1, cut=5, second=last)"), ("mark dan 10 200", None)):
            if answer is None:
                self.assertRaises(MissingPupil, desk.say, line)
            else:
                self.assertEqual(desk.say(line), answer, line)

    def test_what_is_needed_moved_overtaken_and_unlike(self):
        desk = self.desk()
        pages = read_pages(self.WORKS, desk.say("pages"))
        self.assertEqual(desk.say("steps ann 200 200"), "0:kept:18/20 1:kept:20/50 2:extra:6/10 3:dropped:0/100")
        self.assertEqual(desk.say("need ann 99 200 70"), "60")
        self.assertEqual(desk.say("need ann 99 200 60"), "0")
        self.assertEqual(desk.say("need ann 100 200 70"), "none")
        # 44 of 70 stand; 76 of 120 are more, 75 of 120 aren't.
        self.assertEqual(desk.say("moves 99 try ann 3 52 100"), "ann")
        self.assertEqual(desk.say("moves 99 try ann 3 51 100"), "none")
        self.assertEqual(desk.say("moves 99 excuse cid 0"), "cid")
        self.assertEqual(overtakings(self.WORKS, pages, 12), [(40, "bob", "cid")])
        self.assertEqual(overtakings(self.WORKS, pages), [(40, "bob", "cid"), (70, "ann", "bob"), (100, "bob", "ann")])
        self.assertEqual(parted_by(rules_on(self.WORKS, pages, 0), rules_on(self.WORKS, pages, 60)), ("drop", "second"))
        self.assertIsNone(first_unlike(rules_on(self.WORKS, pages, 0), rules_on(self.WORKS, pages, 60)))
        self.assertEqual(pages_text(self.WORKS, pages), desk.say("pages"))


if __name__ == "__main__":
    unittest.main()
