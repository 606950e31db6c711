"""Point 1: errors."""

import unittest

from onepolicy import errors


FIELDS = {
    "Misstep": ["word"], "Wrong": ["word", "place"], "Unread": ["word"], "Beyond": ["field"],
    "Unfit": [], "BadText": ["line", "place"],
}


class Errors(unittest.TestCase):
    def test_refused_is_a_value_error(self):
        self.assertEqual(errors.Refused.__bases__, (ValueError,))

    def test_others_are_direct_subclasses(self):
        for name in FIELDS:
            with self.subTest(name):
                self.assertEqual(getattr(errors, name).__bases__, (errors.Refused,))

    def test_fields_are_set_from_the_arguments_in_order(self):
        for name, fields in FIELDS.items():
            with self.subTest(name):
                given = ["first", 2][:len(fields)]
                error = getattr(errors, name)(*given)
                self.assertEqual(vars(error), dict(zip(fields, given)))

    def test_fields_are_the_names_of_the_arguments(self):
        self.assertEqual(errors.Wrong(place=3, word="route").place, 3)
        self.assertEqual(errors.BadText(line=1, place=2).line, 1)

    def test_they_are_caught_as_refused(self):
        for name, fields in FIELDS.items():
            with self.subTest(name), self.assertRaises(errors.Refused):
                raise getattr(errors, name)(*["word", None][:len(fields)])

    def test_a_wrong_number_of_arguments(self):
        for name in ("Misstep", "Wrong", "Unread", "Beyond", "BadText"):
            with self.subTest(name), self.assertRaises(TypeError):
                getattr(errors, name)()


if __name__ == "__main__":
    unittest.main()
