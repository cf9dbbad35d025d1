"""Promises 2 and 22: the error classes."""

import unittest

from allbutts import errors

FIELDS = {
    "AllKnown": None,
    "BadAnswer": "number",
    "BadLine": "number",
    "BadRun": "place",
    "BadText": "piece",
    "Known": "name",
    "NoNumber": "number",
    "NoPlace": "number",
    "NoStep": "place",
    "NoStrike": "place",
    "NoYear": "name",
    "NothingDone": None,
    "OtherDays": None,
}


class ErrorsTest(unittest.TestCase):
    def test_the_common_class_is_a_value_error(self):
        self.assertEqual(errors.ButtError.__bases__, (ValueError,))
        self.assertEqual(errors.ButtError.__module__, "allbutts.errors")

    def test_each_class_stands_directly_under_the_common_one(self):
        for name in FIELDS:
            with self.subTest(name):
                kind = getattr(errors, name)
                self.assertEqual(kind.__bases__, (errors.ButtError,))
                self.assertEqual(kind.__name__, name)
                self.assertEqual(kind.__module__, "allbutts.errors")

    def test_there_are_no_others(self):
        found = {name for name in vars(errors) if not name.startswith("_")}
        self.assertEqual(found, set(FIELDS) | {"ButtError"})

    def test_values_are_kept_under_their_names(self):
        for name, field in FIELDS.items():
            if field is None:
                continue
            kind = getattr(errors, name)
            worth = "dry" if field == "name" else -7
            with self.subTest(name):
                self.assertEqual(vars(kind(worth)), {field: worth})
                self.assertEqual(vars(kind(**{field: worth})), {field: worth})
                with self.assertRaises(TypeError):
                    kind()

    def test_some_have_no_values(self):
        for name, field in FIELDS.items():
            if field is None:
                with self.subTest(name):
                    self.assertEqual(vars(getattr(errors, name)()), {})

    def test_each_is_caught_as_a_value_error(self):
        for name, field in FIELDS.items():
            values = () if field is None else (3,)
            with self.subTest(name), self.assertRaises(ValueError):
                raise getattr(errors, name)(*values)


if __name__ == "__main__":
    unittest.main()
