"""The interface of longwork.errors: each class, its base and its fields."""

import unittest

from longwork import errors

PLAIN = ("BadHanded", "BadWay", "BadOften", "BadPrice")
NUMBERED = ("BadLog", "BadWeights", "BadFalls", "BadMarks")
ALL = PLAIN + NUMBERED + ("BadProgram", "BadText")


class Errors(unittest.TestCase):
    def test_any_refusal_is_a_work_error_and_a_value_error(self):
        self.assertEqual(errors.WorkError.__bases__, (ValueError,))
        for name in ALL:
            with self.subTest(name):
                self.assertEqual(getattr(errors, name).__bases__, (errors.WorkError,))

    def test_none_is_under_another_one(self):
        for one in ALL:
            for other in ALL:
                if one != other:
                    self.assertFalse(issubclass(getattr(errors, one), getattr(errors, other)))

    def test_those_without_fields(self):
        for name in PLAIN:
            with self.subTest(name):
                self.assertEqual(vars(getattr(errors, name)("why")), {})

    def test_those_with_a_number(self):
        for name in NUMBERED:
            with self.subTest(name):
                self.assertEqual(vars(getattr(errors, name)(7)), {"number": 7})

    def test_bad_program_has_number_and_why(self):
        self.assertEqual(vars(errors.BadProgram(-1, "shape")), {"number": -1, "why": "shape"})

    def test_bad_text_has_a_row(self):
        self.assertEqual(vars(errors.BadText(3)), {"row": 3})


if __name__ == "__main__":
    unittest.main()
