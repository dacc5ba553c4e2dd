"""[3]: the errors."""

import unittest

from sevenpoints import errors

FIELDS = {
    "BadNumber": ("what", "value"),
    "BadProgram": ("value",),
    "BadText": ("line", "column"),
    "BadName": ("name",),
    "NoName": ("name",),
    "TakenName": ("name",),
    "BadRow": ("value",),
    "BadPlace": ("value",),
    "BadPoint": ("value",),
    "Unlike": ("what",),
    "TooMany": ("what", "limit"),
    "NotKept": ("promise", "witness"),
    "BadPromise": ("column",),
    "NothingToUndo": (),
    "NothingToRedo": (),
}

VALUES = (0, -7, True, None, "", "two words", (1, (2,)), [1, [2]], {"a": [1]}, 10 ** 70, b"x")


class Errors(unittest.TestCase):

    def test_fields_are_kept_as_they_are_and_in_order(self):
        for word, fields in FIELDS.items():
            for at in range(len(VALUES)):
                given = [VALUES[at], VALUES[at - 1]][:len(fields)]
                error = getattr(errors, word)(*given)
                for field, value in zip(fields, given):
                    with self.subTest(word=word, field=field, value=value):
                        self.assertIs(getattr(error, field), value)

    def test_lists_stay_lists_that_nobody_changes(self):
        value = [1, [2, [3]]]
        self.assertIs(errors.BadRow(value).value, value)
        self.assertEqual(value, [1, [2, [3]]])
        self.assertEqual(errors.NotKept("a ready b", [1]).witness, [1])

    def test_each_derives_directly_from_point_error(self):
        self.assertEqual(errors.PointError.__bases__, (ValueError,))
        for word in FIELDS:
            self.assertEqual(getattr(errors, word).__bases__, (errors.PointError,))

    def test_no_error_is_one_of_another_class(self):
        for word, fields in FIELDS.items():
            error = getattr(errors, word)(*["x"] * len(fields))
            self.assertIsInstance(error, errors.PointError)
            self.assertIsInstance(error, ValueError)
            for other in FIELDS:
                self.assertEqual(isinstance(error, getattr(errors, other)), word == other)
            for other in (TypeError, LookupError, ArithmeticError):
                self.assertNotIsInstance(error, other)

    def test_an_error_can_be_raised_and_caught(self):
        for word, fields in FIELDS.items():
            with self.assertRaises(errors.PointError) as caught:
                raise getattr(errors, word)(*range(len(fields)))
            self.assertEqual([getattr(caught.exception, field) for field in fields], list(range(len(fields))))

    def test_too_few_or_too_many_fields_are_none(self):
        for word, fields in FIELDS.items():
            if fields:
                with self.assertRaises(TypeError):
                    getattr(errors, word)()
                with self.assertRaises(TypeError):
                    getattr(errors, word)(*range(len(fields) + 1))


if __name__ == "__main__":
    unittest.main()
