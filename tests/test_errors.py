import unittest

from whatnext import errors

WITH_A_FIELD = {
    "NoBook": ("fault", "shape"),
    "Bent": ("place", ("f", 0, 1)),
    "TooGreat": ("name", "f"),
    "NoCarry": ("place", ("f", 1)),
}
WITHOUT = ("NoAsking", "NoMost", "NoText", "NoRow", "NoStand")


class ErrorsTest(unittest.TestCase):
    def test_next_error_is_right_under_value_error(self):
        self.assertEqual(errors.NextError.__bases__, (ValueError,))

    def test_each_other_is_right_under_next_error(self):
        for name in [*WITH_A_FIELD, *WITHOUT]:
            with self.subTest(name=name):
                self.assertEqual(getattr(errors, name).__bases__, (errors.NextError,))

    def test_fields(self):
        for name, (field, value) in WITH_A_FIELD.items():
            with self.subTest(name=name):
                error = getattr(errors, name)(value)
                self.assertEqual(getattr(error, field), value)

    def test_those_without_fields_can_be_raised(self):
        for name in WITHOUT:
            with self.subTest(name=name), self.assertRaises(errors.NextError):
                raise getattr(errors, name)("why")


if __name__ == "__main__":
    unittest.main()
