"""Needs: what a pupil needs at least in the works that are left."""

from classmarks.drops import many_kept, totals
from classmarks.errors import NoBound, NoSheet
from classmarks.marks import HUNDREDTHS
from classmarks.sheets import Sheet, counted_in, scores_of
from classmarks.whole import is_whole_in
from classmarks.works import look_at_day


def works_left(sheet, day):
    """Tell the numbers of the works that are left behind a day."""
    return [number for number, work in enumerate(sheet.works) if sheet.results[number] is None and work[0] > day]


def lots_of(numbers, many):
    """Tell all tuples of so many of the numbers, each in their order."""
    lots = [()]
    for at, number in enumerate(numbers):
        behind = len(numbers) - at - 1
        # What can't become as many any more is left out at once, so that few lots stand here.
        without = [lot for lot in lots if len(lot) + behind >= many]
        lots = [(*lot, number) for lot in lots if len(lot) < many] + without
    return lots


def lack_of(points, most, bound):
    """Tell how many points are missing for a mark of the bound."""
    due = -(-bound * most // HUNDREDTHS)
    return max(0, due - points)


def first_points(works, left, free, many):
    """Tell the first points for the works left, so many together and all in free ones, None where there are none."""
    falling = []
    for number in reversed(left):
        # Of points with the same sum those are first, as tuples compare, that have the most in the last works.
        points = min(many, works[number][1]) if number in free else 0
        falling.append(points)
        many -= points
    return tuple(falling[::-1]) if many == 0 else None


def plans_for(sheet, left, bound):
    """Tell for each lot of rows that may be kept the least (sum, points) by which their mark reaches the bound."""
    counted = counted_in(sheet.works, scores_of(sheet))
    rows, extra = sheet.rows(), sheet.extra()
    plans = []
    for kept in lots_of(list(range(len(rows))), many_kept(len(rows), sheet.drop)):
        had, most = totals(rows, kept, extra)
        many = lack_of(had, most, bound)
        # Only points in kept works and in extra ones help the mark of these rows.
        free = [number for number in left if sheet.works[number][2]] + [counted[row] for row in kept]
        points = first_points(sheet.works, left, free, many)
        if points is not None:
            plans.append((many, points))
    return plans


def needed(sheet, day, bound=50):
    """Tell (sum, points), what is needed at least in the works left for the bound, None where no points do."""
    if not isinstance(sheet, Sheet):
        raise NoSheet("what stands in the place of a sheet is none")
    look_at_day(day)
    if not is_whole_in(bound, 0, HUNDREDTHS):
        raise NoBound("a bound is a whole number from 0 to 100")
    if len(sheet) == 0:
        return None
    return min(plans_for(sheet, works_left(sheet, day), bound), default=None)
