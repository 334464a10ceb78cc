"""The refusals of the interface: bases, word, fields."""

import unittest

from outgrow import errors

WITH_AT = ("BadText", "BadPage")
BARE_MISREAD = ("BadName", "BadNumber")
WITH_NAME = (
    "NoName", "Twice", "NoPlan", "NoLabel", "Taken", "Ring", "NotPlain", "Tangled", "Breaks", "InUse", "Uneven",
)
BARE_UNFIT = ("Misplaced", "Full", "Heavy", "Far", "Weary", "NothingLeft")
MISREAD = WITH_AT + BARE_MISREAD
UNFIT = WITH_NAME + BARE_UNFIT + ("Stopped",)


def made(word):
    """One error of the class of this name, and the fields that it must have beside its word."""
    kind = getattr(errors, word)
    if word in WITH_AT:
        return kind(7), {"at": 7}
    if word in WITH_NAME:
        return kind("scan"), {"name": "scan"}
    if word == "Stopped":
        return kind(3, "Full"), {"at": 3, "kind": "Full"}
    return kind(), {}


class TestErrors(unittest.TestCase):
    def test_bases(self):
        self.assertEqual(errors.Refused.__bases__, (ValueError,))
        self.assertEqual(errors.Misread.__bases__, (errors.Refused,))
        self.assertEqual(errors.Unfit.__bases__, (errors.Refused,))
        for word in MISREAD:
            self.assertEqual(getattr(errors, word).__bases__, (errors.Misread,), word)
        for word in UNFIT:
            self.assertEqual(getattr(errors, word).__bases__, (errors.Unfit,), word)

    def test_word_is_the_name_of_the_class(self):
        for word in ("Refused", "Misread", "Unfit") + MISREAD + UNFIT:
            error, fields = made(word)
            self.assertEqual(error.word, word)
            self.assertEqual(type(error).__name__, word)

    def test_fields(self):
        for word in MISREAD + UNFIT:
            error, fields = made(word)
            self.assertEqual(vars(error), {"word": word, **fields})

    def test_the_empty_name_is_kept(self):
        self.assertEqual(errors.Uneven("").name, "")

    def test_caught_as_refused_and_as_value_error(self):
        for word in MISREAD + UNFIT:
            family = errors.Misread if word in MISREAD else errors.Unfit
            for kind in (getattr(errors, word), family, errors.Refused, ValueError):
                with self.assertRaises(kind):
                    raise made(word)[0]

    def test_one_family_is_not_the_other(self):
        for word in MISREAD:
            self.assertNotIsInstance(made(word)[0], errors.Unfit)
        for word in UNFIT:
            self.assertNotIsInstance(made(word)[0], errors.Misread)

    def test_all_are_defined_there_and_no_more(self):
        there = {name for name, value in vars(errors).items() if isinstance(value, type)}
        self.assertEqual(there, {"Refused", "Misread", "Unfit"} | set(MISREAD) | set(UNFIT))
        for name in there:
            self.assertEqual(getattr(errors, name).__module__, "outgrow.errors")
