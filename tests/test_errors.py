"""Point 0.3 and the interface of dayshares/errors.py."""

import unittest

from dayshares import errors
from tests.common import FAMILIES, all_classes

STRAIGHT = ["NoteError", "PriceError", "DayError", "NoPence", "NoName", "Missing", "Twice", "NoDeed", "NoSheet",
            "NoSteps", "NoWishes", "NoLine", "TooMany", "NoText"]


class TestClasses(unittest.TestCase):
    def test_share_error_stands_under_value_error(self):
        self.assertEqual(errors.ShareError.__bases__, (ValueError,))

    def test_these_stand_straight_under_share_error(self):
        for name in STRAIGHT:
            self.assertEqual(getattr(errors, name).__bases__, (errors.ShareError,), name)

    def test_these_stand_under_their_family(self):
        for name, family in FAMILIES.items():
            self.assertEqual(getattr(errors, name).__bases__, (getattr(errors, family),), name)

    def test_none_else_stands_under_another(self):
        for one in all_classes():
            for other in all_classes():
                if one is not other and issubclass(one, other):
                    due = [errors.ShareError]
                    if one.__name__ in FAMILIES:
                        due.append(getattr(errors, FAMILIES[one.__name__]))
                    self.assertIn(other, due)

    def test_they_are_defined_in_their_file_under_their_name(self):
        for name in ["ShareError", *STRAIGHT, *FAMILIES]:
            self.assertEqual(getattr(errors, name).__module__, "dayshares.errors")
            self.assertEqual(getattr(errors, name).__name__, name)


class TestFields(unittest.TestCase):
    def test_leans(self):
        for caught in (errors.Leans(3), errors.Leans(many=3)):
            self.assertEqual(caught.many, 3)
        self.assertEqual(errors.Leans(1).many, 1)

    def test_too_many(self):
        for caught in (errors.TooMany(13, 12), errors.TooMany(many=13, most=12), errors.TooMany(13, most=12)):
            self.assertEqual((caught.many, caught.most), (13, 12))

    def test_no_text(self):
        for caught in (errors.NoText(-1), errors.NoText(at=-1)):
            self.assertEqual(caught.at, -1)
        self.assertEqual(errors.NoText(0).at, 0)

    def test_they_are_raised_and_caught_by_their_family(self):
        for made, family in ((errors.Leans(2), errors.NoteError), (errors.NoKind("a"), errors.PriceError),
                             (errors.NoDay("a"), errors.DayError), (errors.TooMany(9, 8), errors.ShareError),
                             (errors.NoText(4), ValueError)):
            with self.assertRaises(family):
                raise made


if __name__ == "__main__":
    unittest.main()
