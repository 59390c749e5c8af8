"""The errors: their families, their fields, and that they keep the very objects [12]."""

import unittest

from cutorclose import errors

FIELDS = {
    "InvalidPaper": ("PaperError", ("word", "at")),
    "NotUsable": ("BookError", ("word", "at")),
    "Unlike": ("BookError", ("clash",)),
    "Untied": ("BookError", ("lot",)),
    "InvalidEvent": ("LiveError", ("event", "reason")),
    "NothingToUndo": ("LiveError", ("steps",)),
    "InvalidText": ("TextError", ("line", "field")),
    "InvalidRow": ("TextError", ("row",)),
}


class Errors(unittest.TestCase):
    def test_families_stand_directly_below_the_base(self):
        self.assertEqual(errors.TakeError.__bases__, (ValueError,))
        for family in ("PaperError", "BookError", "LiveError", "TextError"):
            self.assertEqual(getattr(errors, family).__bases__, (errors.TakeError,))

    def test_each_error_stands_directly_below_its_family(self):
        for name, (family, _) in FIELDS.items():
            self.assertEqual(getattr(errors, name).__bases__, (getattr(errors, family),))

    def test_fields_are_the_very_objects(self):
        for name, (_, fields) in FIELDS.items():
            values = [[k, None, object()] for k in range(len(fields))]
            for error in (getattr(errors, name)(*values), getattr(errors, name)(**dict(zip(fields, values)))):
                self.assertEqual(list(vars(error)), list(fields))
                for field, value in zip(fields, values):
                    self.assertIs(getattr(error, field), value)

    def test_exactly_the_fields(self):
        for name, (_, fields) in FIELDS.items():
            for many in (len(fields) - 1, len(fields) + 1):
                with self.assertRaises(TypeError):
                    getattr(errors, name)(*range(many))

    def test_caught_as_value_error(self):
        with self.assertRaises(ValueError):
            raise errors.InvalidText(0, 1)


if __name__ == "__main__":
    unittest.main()
