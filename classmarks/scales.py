"""Scales: letters for marks."""

from classmarks.errors import NoMark, NoScale
from classmarks.marks import HUNDREDTHS, Mark
from classmarks.tuples import has_parts, is_rising
from classmarks.whole import is_whole_in

MOST_LETTERS = 8


def is_letter(thing):
    """Tell of anything whether it is a letter of a scale, a text of one sign from A to Z."""
    return isinstance(thing, str) and len(thing) == 1 and "A" <= thing <= "Z"


def is_step(thing):
    """Tell of anything whether it is one step of a scale, a tuple (letter, bound)."""
    return has_parts(thing, 2, 2) and is_letter(thing[0]) and is_whole_in(thing[1], 0, HUNDREDTHS)


def is_scale(thing):
    """Tell of anything whether it is a scale, a tuple of steps by falling bounds, the last one 0."""
    if not has_parts(thing, 1, MOST_LETTERS) or not all([is_step(part) for part in thing]):
        return False
    letters = [letter for letter, bound in thing]
    bounds = [bound for letter, bound in thing]
    return len(set(letters)) == len(letters) and is_rising(bounds[::-1]) and bounds[-1] == 0


def look_at_scale(scale):
    """Refuse what is no scale."""
    if not is_scale(scale):
        raise NoScale("what stands in the place of a scale is none")


def look_at(mark, scale):
    """Refuse what is no mark or no scale."""
    if not isinstance(mark, Mark):
        raise NoMark("what stands in the place of a mark is none")
    look_at_scale(scale)


def letter_of(mark, scale):
    """Tell the first letter whose bound the mark reaches."""
    look_at(mark, scale)
    return [letter for letter, bound in scale if mark.points * HUNDREDTHS >= bound * mark.most][0]


def at_border(mark, scale):
    """Tell whether the mark is just at a bound above 0."""
    look_at(mark, scale)
    return any([bound > 0 and mark.points * HUNDREDTHS == bound * mark.most for letter, bound in scale])
