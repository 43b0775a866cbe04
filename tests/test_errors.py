import unittest

from alikeclash import errors

FAMILIES = {
    "PaperError": {"InvalidPaper": ("word", "at")},
    "RuleError": {
        "NotUsable": ("word", "at"), "Refused": ("triple",), "Unfit": ("lot",), "Trusted": ("way",),
        "Blocked": ("group",),
    },
    "LiveError": {"InvalidEvent": ("event", "reason"), "NothingToUndo": ("steps",)},
    "TextError": {"InvalidText": ("line", "field"), "InvalidRow": ("row",)},
}


class ErrorsTest(unittest.TestCase):

    def test_families(self):
        self.assertEqual(errors.AlikeError.__bases__, (ValueError,))
        for family, members in FAMILIES.items():
            family = getattr(errors, family)
            self.assertEqual(family.__bases__, (errors.AlikeError,))
            for name in members:
                self.assertEqual(getattr(errors, name).__bases__, (family,), name)

    def test_fields_are_kept_as_they_are(self):
        for members in FAMILIES.values():
            for name, fields in members.items():
                made = getattr(errors, name)
                worths = [[name], object()][:len(fields)]
                for error in (made(*worths), made(**dict(zip(fields, worths)))):
                    self.assertEqual(set(vars(error)), set(fields))
                    for field, worth in zip(fields, worths):
                        self.assertIs(getattr(error, field), worth)

    def test_exactly_the_fields(self):
        for members in FAMILIES.values():
            for name, fields in members.items():
                made = getattr(errors, name)
                with self.assertRaises(TypeError):
                    made(*range(len(fields) + 1))
                with self.assertRaises(TypeError):
                    made(*range(len(fields) - 1))
