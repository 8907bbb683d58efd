import unittest

from sevenasone import errors

WITH_PART = ("BadRule", "BadCounts", "BadStore", "BadTree", "BadThing", "BadChain", "BadPattern", "BadLot", "BadTable",
             "BadNumber", "BadPaper", "Misfit")
BELOW_MISSING = ("NoKnot", "NoBox", "NoHole", "NoStep")
FIELDS = {name: ("part",) for name in WITH_PART}
FIELDS.update({name: ("value",) for name in BELOW_MISSING + ("Missing",)})
FIELDS.update({"Impossible": ("paper",), "TooMany": ("what", "most"), "BadText": ("line", "item")})
VALUES = (0, -3, 10 ** 5000, "rule", "", [1, [2]], (1, (2,)), True, None, {1: 2})


class Errors(unittest.TestCase):
    def test_fields_are_kept_as_passed(self):
        for name, fields in FIELDS.items():
            made = getattr(errors, name)
            for first in VALUES:
                for last in VALUES:
                    given = (first, last)[-len(fields):]
                    by_place, by_name = made(*given), made(**dict(zip(fields, given)))
                    for error in (by_place, by_name):
                        self.assertEqual(list(vars(error)), list(fields))
                        for field, value in zip(fields, given):
                            self.assertIs(getattr(error, field), value)

    def test_what_is_below_what(self):
        for name, fields in FIELDS.items():
            made = getattr(errors, name)
            base = errors.Missing if name in BELOW_MISSING else errors.TreeError
            self.assertEqual(made.__bases__, (base,), name)
            self.assertIsInstance(made(*fields), errors.TreeError)
            self.assertIsInstance(made(*fields), ValueError)
        self.assertEqual(errors.TreeError.__bases__, (ValueError,))

    def test_they_can_be_raised_and_caught(self):
        for name, fields in FIELDS.items():
            with self.assertRaises(errors.TreeError):
                raise getattr(errors, name)(*fields)

    def test_fields_are_wanted(self):
        for name, fields in FIELDS.items():
            with self.assertRaises(TypeError):
                getattr(errors, name)(*fields, 1)
            with self.assertRaises(TypeError):
                getattr(errors, name)()


if __name__ == "__main__":
    unittest.main()
