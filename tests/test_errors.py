"""The errors: their fields, and where each stands."""

import unittest

from fromsize import errors

PARTS = ["BadWiring", "BadTops", "BadSum", "BadTies", "BadEnds", "BadTieSum", "BadSetting", "BadTable", "BadWord",
         "BadFormula", "BadMeasure", "BadNumber", "Misfit"]
FIELDS = {**{name: ["part"] for name in PARTS}, "TooMany": ["what", "most"], "BadText": ["item"]}
VALUES = [0, -7, 10 ** 100, "terms", "", [1, [2]], (3, "a"), None, True, {"a": 1}, 10 ** 5000]


class ErrorsTest(unittest.TestCase):
    def test_each_keeps_the_very_values(self):
        for name, fields in FIELDS.items():
            kind = getattr(errors, name)
            for value in VALUES:
                told = [value, object()][:len(fields)]
                by_place = kind(*told)
                by_name = kind(**dict(zip(fields, told)))
                turned = kind(**dict(reversed(list(zip(fields, told)))))
                for error in (by_place, by_name, turned):
                    for field, kept in zip(fields, told):
                        self.assertIs(getattr(error, field), kept)

    def test_fields_are_needed(self):
        for name, fields in FIELDS.items():
            kind = getattr(errors, name)
            self.assertRaises(TypeError, kind)
            self.assertRaises(TypeError, kind, *([1] * (len(fields) + 1)))
            self.assertRaises(TypeError, kind, other=1)

    def test_a_list_is_kept_as_it_is(self):
        part = [1, [2]]
        error = errors.BadSum(part)
        part[1].append(3)
        self.assertIs(error.part, part)
        self.assertEqual(error.part, [1, [2, 3]])

    def test_where_each_stands(self):
        self.assertEqual(errors.SizeError.__bases__, (ValueError,))
        kinds = [getattr(errors, name) for name in FIELDS]
        for kind in kinds:
            self.assertEqual(kind.__bases__, (errors.SizeError,))
            error = kind(*([1] * len(FIELDS[kind.__name__])))
            self.assertIsInstance(error, ValueError)
            self.assertEqual([other for other in kinds if isinstance(error, other)], [kind])
            for other in (LookupError, ArithmeticError, TypeError, UnicodeError):
                self.assertNotIsInstance(error, other)

    def test_no_other_error_is_told(self):
        told = [name for name, value in vars(errors).items() if isinstance(value, type)]
        self.assertEqual(sorted(told), sorted([*FIELDS, "SizeError"]))

    def test_caught_as_the_base(self):
        for name, fields in FIELDS.items():
            with self.assertRaises(errors.SizeError):
                raise getattr(errors, name)(*([1] * len(fields)))


if __name__ == "__main__":
    unittest.main()
