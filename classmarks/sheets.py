"""Sheets: the results of one pupil in all works, and the mark that they make."""

from classmarks.drops import best_mark, kept_rows
from classmarks.errors import BadRule, NoResult, NoRules
from classmarks.rules import Rules, is_drop, rules_like
from classmarks.scores import is_result, score
from classmarks.tuples import has_parts
from classmarks.works import look_at_works


def are_rules_for(works, thing):
    """Tell of anything whether it is a tuple of Rules, one for each work."""
    return has_parts(thing, len(works), len(works)) and all([isinstance(part, Rules) for part in thing])


def are_results_of(works, thing):
    """Tell of anything whether it is a tuple of results, one of each work."""
    if not has_parts(thing, len(works), len(works)):
        return False
    return all([is_result(work, part) for work, part in zip(works, thing)])


def scores_of(sheet):
    """Tell the score of each work of a sheet."""
    return [score(work, rules, result) for work, rules, result in zip(sheet.works, sheet.rules, sheet.results)]


def counted_in(works, scores):
    """Tell the numbers of the works that are neither excused nor extra."""
    return [number for number, work in enumerate(works) if scores[number] is not None and not work[2]]


def words_of(sheet, scores):
    """Tell for each work of a sheet whether it is excused, extra, kept or dropped."""
    words = ["excused" if points is None else "extra" for points in scores]
    counted = counted_in(sheet.works, scores)
    for number in counted:
        words[number] = "dropped"
    if len(counted) > 0:
        for row in kept_rows(sheet.rows(), sheet.drop, sheet.extra()):
            words[counted[row]] = "kept"
    return words


def text_of(step):
    """Tell one step as it is written."""
    number, word, points, most = step
    if points is None:
        return f"{number}:{word}"
    return f"{number}:{word}:{points}/{most}"


class Sheet:
    """Works, each with its Rules and its result, and how many of them are dropped."""

    def __init__(self, works, rules, results, drop=0):
        look_at_works(works)
        if not are_rules_for(works, rules):
            raise NoRules("what stands in the place of Rules for each work is none")
        if not are_results_of(works, results):
            raise NoResult("what stands in the place of a result of each work is none")
        if not is_drop(drop):
            raise BadRule("drop")
        self.works = works
        # Rules can be changed by whoever handed them in, so these aren't kept themselves.
        self.rules = tuple([rules_like(each) for each in rules])
        self.results = results
        self.drop = drop

    def __len__(self):
        return len(self.rows())

    def __eq__(self, other):
        return (isinstance(other, Sheet) and self.works == other.works and self.rules == other.rules
                and self.results == other.results and self.drop == other.drop)

    def __str__(self):
        return " ".join([text_of(step) for step in self.steps()])

    def rows(self):
        """Tell the rows (score, most) of the works that are counted."""
        scores = scores_of(self)
        return tuple([(scores[number], self.works[number][1]) for number in counted_in(self.works, scores)])

    def extra(self):
        """Tell the points of the extra works that aren't excused."""
        return sum([points for work, points in zip(self.works, scores_of(self)) if work[2] and points is not None])

    def mark(self):
        """Tell the mark, None where no work is counted."""
        rows = self.rows()
        if len(rows) == 0:
            return None
        return best_mark(rows, self.drop, self.extra())

    def steps(self):
        """Tell a new list with the step (number, word, score, most) of each work."""
        scores = scores_of(self)
        words = words_of(self, scores)
        return [(number, words[number], scores[number], work[1]) for number, work in enumerate(self.works)]
