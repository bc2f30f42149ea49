"""The error classes with their fields."""

import unittest

from sharebags import errors

PLAIN = [
    "BadBags", "BadFamily", "BadBead", "BadBeads", "BadPour", "BadPart", "BadNumber", "BadSizes", "BadCode",
    "BadPrices", "BadNames", "OtherBeads", "NotCoarser", "NotText", "NothingToUndo",
]
FIELDS = {"TooGreat": "most", "TooMany": "most", "InvalidText": "place"}


class ErrorsTest(unittest.TestCase):
    def test_base_class(self):
        self.assertEqual(errors.BagError.__bases__, (ValueError,))

    def test_all_are_direct_subclasses_of_their_own_file(self):
        for name in PLAIN + list(FIELDS):
            kind = getattr(errors, name)
            self.assertEqual(kind.__bases__, (errors.BagError,), name)
            self.assertEqual((kind.__module__, kind.__name__), ("sharebags.errors", name))

    def test_there_are_no_others(self):
        kinds = [name for name, value in vars(errors).items() if isinstance(value, type)]
        self.assertEqual(sorted(kinds), sorted(["BagError"] + PLAIN + list(FIELDS)))

    def test_plain_errors_have_no_fields(self):
        for name in PLAIN:
            self.assertEqual(vars(getattr(errors, name)()), {}, name)

    def test_fields_are_set(self):
        for name, field in FIELDS.items():
            kind = getattr(errors, name)
            self.assertEqual(vars(kind(7)), {field: 7}, name)
            self.assertEqual(vars(kind(**{field: 8})), {field: 8}, name)
            with self.assertRaises(TypeError):
                kind()


if __name__ == "__main__":
    unittest.main()
