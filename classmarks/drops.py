"""Dropping: of rows those are left out whose leaving helps most."""

from classmarks.errors import BadRule, NoExtra, NoRows
from classmarks.marks import Mark
from classmarks.rules import is_drop
from classmarks.tuples import has_parts, is_rising
from classmarks.whole import is_whole_from, is_whole_in
from classmarks.works import MOST_POINTS, MOST_WORKS


def is_row(thing):
    """Tell of anything whether it is a row, a tuple (points, most)."""
    if not has_parts(thing, 2, 2):
        return False
    points, most = thing
    return is_whole_in(most, 1, MOST_POINTS) and is_whole_in(points, 0, most)


def are_rows(thing):
    """Tell of anything whether it is rows, a tuple of them."""
    return has_parts(thing, 1, MOST_WORKS) and all([is_row(part) for part in thing])


def look_at(rows, drop, extra):
    """Refuse what is no rows, no drop or no extra points."""
    if not are_rows(rows):
        raise NoRows("what stands in the place of rows is none")
    if not is_drop(drop):
        raise BadRule("drop")
    if not is_whole_from(extra, 0):
        raise NoExtra("extra points are a whole number from 0 on")


def many_kept(many, drop):
    """Tell how many of so many rows are kept."""
    return max(1, many - drop)


def totals(rows, kept, extra):
    """Tell the points and the most of the mark of these rows."""
    return sum([rows[number][0] for number in kept]) + extra, sum([rows[number][1] for number in kept])


def lift(row, points, most):
    """Tell how far a row lifts a mark of so many points by so many at most."""
    return most * row[0] - points * row[1]


def lifting_most(rows, many, points, most):
    """Tell the so many rows that lift this mark most, of those that lift it alike the first."""
    falling = sorted(range(len(rows)), key=lambda number: -lift(rows[number], points, most))
    return tuple(sorted(falling[:many]))


def best_kept(rows, drop, extra):
    """Tell the numbers of the kept rows whose mark is greatest, of several the first."""
    many = many_kept(len(rows), drop)
    kept = tuple(range(many))
    while True:
        points, most = totals(rows, kept, extra)
        better = lifting_most(rows, many, points, most)
        # Against a mark that isn't the greatest, the rows that lift it most have a greater one;
        # against the greatest, they have it themselves: so this ends, and with the greatest mark.
        if better == kept:
            return kept
        kept = better


def kept_rows(rows, drop=0, extra=0):
    """Tell the numbers of the rows that are kept."""
    look_at(rows, drop, extra)
    return best_kept(rows, drop, extra)


def best_mark(rows, drop=0, extra=0):
    """Tell the mark of the rows that are kept."""
    look_at(rows, drop, extra)
    points, most = totals(rows, best_kept(rows, drop, extra), extra)
    return Mark(points, most)


def are_kept(rows, thing, drop):
    """Tell of anything whether it is a rising tuple of as many numbers of rows as are kept."""
    many = many_kept(len(rows), drop)
    if not has_parts(thing, many, many):
        return False
    return all([is_whole_in(part, 0, len(rows) - 1) for part in thing]) and is_rising(thing)


def is_paper(rows, thing, drop=0, extra=0):
    """Tell of anything whether it is a paper, a tuple (kept, points, most) by which no other rows help more."""
    look_at(rows, drop, extra)
    if not has_parts(thing, 3, 3):
        return False
    kept, points, most = thing
    if not are_kept(rows, kept, drop) or not is_whole_from(points, 0) or not is_whole_from(most, 1):
        return False
    if (points, most) != totals(rows, kept, extra):
        return False
    least = min([lift(rows[number], points, most) for number in kept])
    return all([lift(row, points, most) <= least for number, row in enumerate(rows) if number not in kept])


def paper_of(rows, drop=0, extra=0):
    """Tell the paper of the rows that are kept."""
    look_at(rows, drop, extra)
    kept = best_kept(rows, drop, extra)
    points, most = totals(rows, kept, extra)
    return kept, points, most
