"""The interface's row of manyhands/errors.py."""

import unittest

from manyhands import errors
from manyhands.errors import HandsError, NoDeed, NoSave, NotThere, NoTime, Nothing, Unlike

REFUSALS = [NoDeed, Unlike, NoTime, NotThere, Nothing, NoSave]


class Errors(unittest.TestCase):
    def test_any_refusal_is_a_value_error(self):
        self.assertTrue(issubclass(HandsError, ValueError))
        with self.assertRaises(ValueError):
            raise HandsError("words")

    def test_each_refusal_stands_under_hands_error(self):
        for refusal in REFUSALS:
            with self.subTest(refusal=refusal):
                self.assertTrue(issubclass(refusal, HandsError))
                self.assertNotEqual(refusal, HandsError)

    def test_none_stands_below_another(self):
        for one in REFUSALS:
            for other in REFUSALS:
                with self.subTest(one=one, other=other):
                    self.assertEqual(issubclass(one, other), one == other)

    def test_each_can_be_raised_and_taken_by_its_name(self):
        for refusal in REFUSALS:
            with self.subTest(refusal=refusal):
                with self.assertRaises(refusal):
                    raise refusal(1)

    def test_no_save_has_its_line_from_the_start(self):
        self.assertEqual(NoSave(1).line, 1)
        self.assertEqual(NoSave(6400).line, 6400)

    def test_the_other_refusals_have_no_line(self):
        for refusal in REFUSALS[:-1]:
            with self.subTest(refusal=refusal):
                self.assertFalse(hasattr(refusal("words"), "line"))

    def test_the_module_holds_just_these(self):
        held = [name for name in vars(errors) if not name.startswith("__")]
        self.assertEqual(sorted(held), sorted(refusal.__name__ for refusal in REFUSALS + [HandsError]))


if __name__ == "__main__":
    unittest.main()
