"""Rules: how marks are made of tries."""

from classmarks.errors import BadRule
from classmarks.whole import is_whole_in

MOST_DROP = 5
MOST_CUT = 100
SECONDS = ("best", "last", "mean")


def is_drop(thing):
    """Tell of anything whether it is a number of works that Rules may drop."""
    return is_whole_in(thing, 0, MOST_DROP)


def is_cut(thing):
    """Tell of anything whether it is a number of hundredths that Rules may take off each late day."""
    return is_whole_in(thing, 0, MOST_CUT)


def is_second(thing):
    """Tell of anything whether it is a word for how Rules count second tries."""
    return isinstance(thing, str) and thing in SECONDS


def is_value(name, thing):
    """Tell of anything whether it is a value for the rule of this name, which is anything, too."""
    if name == "drop":
        return is_drop(thing)
    if name == "cut":
        return is_cut(thing)
    return name == "second" and is_second(thing)


class Rules:
    """How many works are dropped, what a late day takes off, how second tries count."""

    def __init__(self, drop=0, cut=0, second="best"):
        if not is_drop(drop):
            raise BadRule("drop")
        if not is_cut(cut):
            raise BadRule("cut")
        if not is_second(second):
            raise BadRule("second")
        self.drop = drop
        self.cut = cut
        self.second = second

    def __eq__(self, other):
        return (isinstance(other, Rules) and self.drop == other.drop
                and self.cut == other.cut and self.second == other.second)

    def __repr__(self):
        return f"Rules(drop={self.drop}, cut={self.cut}, second={self.second})"


def rules_like(rules):
    """Tell new Rules with the same values."""
    return Rules(rules.drop, rules.cut, rules.second)
