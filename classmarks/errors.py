"""The refusals of the program, one class for each kind."""


def copy_of(thing):
    """Tell a thing equal to this one, no list or dict of the two being one."""
    if isinstance(thing, list):
        return [copy_of(part) for part in thing]
    if isinstance(thing, tuple):
        return tuple([copy_of(part) for part in thing])
    if isinstance(thing, dict):
        return {key: copy_of(thing[key]) for key in thing}
    return thing


class ClassError(ValueError):
    """What is handed in is refused."""


class NoWorks(ClassError):
    """What stands in the place of works is none."""


class NoWork(ClassError):
    """What stands in the place of a work is none."""


class NoRules(ClassError):
    """What stands in the place of Rules is none."""


class NoResult(ClassError):
    """What stands in the place of a work's result is none."""


class NoMark(ClassError):
    """What stands in the place of a mark, or of marks, is none."""


class NoRows(ClassError):
    """What stands in the place of rows is none."""


class NoExtra(ClassError):
    """What stands in the place of extra points is none."""


class NoSheet(ClassError):
    """What stands in the place of a sheet is none."""


class NoDay(ClassError):
    """What stands in the place of a day is none."""


class NoBound(ClassError):
    """What stands in the place of a bound is none."""


class NoScale(ClassError):
    """What stands in the place of a scale is none."""


class NoPages(ClassError):
    """What stands in the place of pages is none."""


class NoPage(ClassError):
    """What stands in the place of a page is none."""


class NoLine(ClassError):
    """What a desk is told is no line."""


class NoDeed(ClassError):
    """There is no deed to undo."""


class There(ClassError):
    """The page is kept already."""


class BadRule(ClassError):
    """The value for the rule of this name is none that it can have."""

    def __init__(self, name):
        ClassError.__init__(self, f"no value that the rule {name} can have")
        self.name = name


class NoText(ClassError):
    """The text writes no pages, by its row of this number."""

    def __init__(self, row):
        ClassError.__init__(self, f"no text of pages, by row {row}")
        self.row = row


class TooMany(ClassError):
    """There are so many, and at most so many may be."""

    def __init__(self, many, most):
        ClassError.__init__(self, f"{many}, where {most} may be at most")
        self.many = many
        self.most = most


class MissingPupil(LookupError):
    """No known page tells this pupil."""

    def __init__(self, pupil):
        LookupError.__init__(self, f"no known page tells {pupil}")
        # Whatever is no pupil may come here, a list too, and a list of the asker's isn't kept.
        self.pupil = copy_of(pupil)
