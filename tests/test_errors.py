import inspect
import unittest

from classmarks import errors

MADE_WITH_A_TEXT = (
    "NoWorks", "NoWork", "NoRules", "NoResult", "NoMark", "NoRows", "NoExtra", "NoSheet",
    "NoDay", "NoBound", "NoScale", "NoPages", "NoPage", "NoLine", "NoDeed", "There",
)
FIELDS = {
    "BadRule": {"name": "second"},
    "NoText": {"row": 3},
    "TooMany": {"many": 41, "most": 40},
    "MissingPupil": {"pupil": "ann"},
}
UNDER_CLASS_ERROR = MADE_WITH_A_TEXT + ("BadRule", "NoText", "TooMany")


def caught(error, kind):
    """Raise the error and tell what is caught as this kind."""
    try:
        raise error
    except kind as seen:
        return seen


class Families(unittest.TestCase):
    def test_all_listed_classes_and_no_others(self):
        found = [name for name, kind in vars(errors).items() if inspect.isclass(kind)]
        self.assertEqual(sorted(found), sorted(UNDER_CLASS_ERROR + ("ClassError", "MissingPupil")))

    def test_each_is_defined_in_this_file(self):
        for name in UNDER_CLASS_ERROR + ("ClassError", "MissingPupil"):
            self.assertEqual(getattr(errors, name).__module__, "classmarks.errors", name)

    def test_each_stands_straight_under_its_class(self):
        self.assertEqual(errors.ClassError.__bases__, (ValueError,))
        self.assertEqual(errors.MissingPupil.__bases__, (LookupError,))
        for name in UNDER_CLASS_ERROR:
            self.assertEqual(getattr(errors, name).__bases__, (errors.ClassError,), name)

    def test_none_is_under_another_family(self):
        for name in UNDER_CLASS_ERROR:
            kind = getattr(errors, name)
            self.assertTrue(issubclass(kind, ValueError), name)
            self.assertFalse(issubclass(kind, LookupError), name)
        self.assertFalse(issubclass(errors.ClassError, LookupError))
        self.assertFalse(issubclass(errors.MissingPupil, errors.ClassError))
        self.assertFalse(issubclass(errors.MissingPupil, ValueError))
        self.assertFalse(issubclass(errors.MissingPupil, (KeyError, IndexError)))

    def test_none_is_under_another_of_the_list(self):
        listed = UNDER_CLASS_ERROR + ("MissingPupil",)
        for name in listed:
            for other in listed:
                under = issubclass(getattr(errors, name), getattr(errors, other))
                self.assertEqual(under, name == other, (name, other))


class Made(unittest.TestCase):
    def test_with_a_text(self):
        for name in ("ClassError",) + MADE_WITH_A_TEXT:
            error = getattr(errors, name)("why it is refused")
            self.assertEqual(str(error), "why it is refused", name)

    def test_with_fields_by_place(self):
        for name, fields in FIELDS.items():
            error = getattr(errors, name)(*fields.values())
            self.assertEqual(vars(error), fields, name)

    def test_with_fields_by_name(self):
        for name, fields in FIELDS.items():
            error = getattr(errors, name)(**fields)
            self.assertEqual(vars(error), fields, name)

    def test_too_many_by_name_in_the_other_order_and_mixed(self):
        for error in (errors.TooMany(most=40, many=41), errors.TooMany(41, most=40)):
            self.assertEqual((error.many, error.most), (41, 40))

    def test_fields_have_no_defaults(self):
        for name in FIELDS:
            with self.assertRaises(TypeError):
                getattr(errors, name)()
        with self.assertRaises(TypeError):
            errors.TooMany(41)

    def test_a_message_tells_the_fields(self):
        for name, fields in FIELDS.items():
            message = str(getattr(errors, name)(**fields))
            for value in fields.values():
                self.assertIn(str(value), message, name)

    def test_missing_pupil_keeps_no_thing_that_can_be_changed(self):
        pupil = ["ann", {"bob": ["cid"]}, (["dan"], None)]
        error = errors.MissingPupil(pupil)
        self.assertEqual(error.pupil, ["ann", {"bob": ["cid"]}, (["dan"], None)])
        pupil[1]["bob"].append("eve")
        pupil[2][0].append("eve")
        pupil[1]["fay"] = 1
        pupil.append("eve")
        self.assertEqual(error.pupil, ["ann", {"bob": ["cid"]}, (["dan"], None)])
        for part in error.args:
            self.assertIsInstance(part, str)

    def test_missing_pupil_leaves_what_it_was_handed(self):
        pupil = ["ann", {"bob": ["cid"]}, (["dan"], None)]
        errors.MissingPupil(pupil)
        self.assertEqual(pupil, ["ann", {"bob": ["cid"]}, (["dan"], None)])

    def test_missing_pupil_of_anything(self):
        for pupil in (None, True, 7, "", "Ann", (), [], {}, ("ann",), {"ann": 1}):
            self.assertEqual(repr(errors.MissingPupil(pupil).pupil), repr(pupil))


class Raised(unittest.TestCase):
    def test_caught_as_each_class_above(self):
        for name in MADE_WITH_A_TEXT:
            error = getattr(errors, name)("why")
            for kind in (getattr(errors, name), errors.ClassError, ValueError):
                self.assertIs(caught(error, kind), error)

    def test_those_with_fields_caught_with_them(self):
        for name, fields in FIELDS.items():
            base = LookupError if name == "MissingPupil" else errors.ClassError
            for kind in (getattr(errors, name), base):
                self.assertEqual(vars(caught(getattr(errors, name)(**fields), kind)), fields)

    def test_not_caught_as_another_one(self):
        with self.assertRaises(errors.NoWork):
            caught(errors.NoWork("why"), errors.NoWorks)
        with self.assertRaises(errors.NoPages):
            caught(errors.NoPages("why"), (errors.NoPage, LookupError))
        with self.assertRaises(errors.MissingPupil):
            caught(errors.MissingPupil("ann"), ValueError)


if __name__ == "__main__":
    unittest.main()
