"""[4], [11]: the errors."""

import unittest

from nearestheld import errors
from things import things

FIELDS = {
    "CannotTell": "step", "NoCommand": "line", "NoLine": "line", "NoText": "text", "NotThere": "value",
    "TooMany": "most", "Undecided": "step", "Wrong": "place",
}


class Errors(unittest.TestCase):
    def test_there_are_just_these_classes(self):
        found = [name for name, thing in vars(errors).items() if isinstance(thing, type)]
        self.assertEqual(sorted(found), sorted([*FIELDS, "NearError", "Nothing"]))

    def test_each_is_under_near_error_and_no_other_one(self):
        names = [*FIELDS, "Nothing"]
        for name in names:
            one = getattr(errors, name)
            self.assertTrue(issubclass(one, errors.NearError))
            for other in names:
                if other != name:
                    self.assertFalse(issubclass(one, getattr(errors, other)), (name, other))

    def test_near_error_is_a_value_error(self):
        self.assertTrue(issubclass(errors.NearError, ValueError))
        self.assertIsInstance(errors.NearError(), ValueError)

    def test_an_error_keeps_the_very_object(self):
        for name, field in FIELDS.items():
            for thing in things():
                error = getattr(errors, name)(thing)
                self.assertIs(getattr(error, field), thing)
                self.assertEqual(list(vars(error)), [field])

    def test_what_is_kept_is_not_copied(self):
        kept = [1]
        error = errors.NotThere(kept)
        kept.append(2)
        self.assertEqual(error.value, [1, 2])

    def test_nothing_is_made_of_nothing(self):
        self.assertEqual(vars(errors.Nothing()), {})

    def test_each_can_be_raised_and_caught_as_a_near_error(self):
        for name in FIELDS:
            with self.assertRaises(errors.NearError) as caught:
                raise getattr(errors, name)(3)
            self.assertEqual(getattr(caught.exception, FIELDS[name]), 3)
        with self.assertRaises(errors.NearError):
            raise errors.Nothing()

    def test_arguments_are_needed_as_in_the_signature(self):
        for name in FIELDS:
            with self.assertRaises(TypeError):
                getattr(errors, name)()
            with self.assertRaises(TypeError):
                getattr(errors, name)(1, 2)


if __name__ == "__main__":
    unittest.main()
