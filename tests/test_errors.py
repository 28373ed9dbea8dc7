"""Point 2 and the interface's errors: what each refusal stands under, and what it keeps."""

import unittest

from ledpast.errors import NoPiece, NoPlan, NoRow, NothingLeft, PlanError, TooMany

OF_A_TEXT = (TooMany, NoPiece, NoRow, NothingLeft)
ALL = OF_A_TEXT + (NoPlan,)


class Standing(unittest.TestCase):
    def test_plan_error_stands_straight_under_value_error(self):
        self.assertEqual(PlanError.__bases__, (ValueError,))

    def test_each_stands_straight_under_plan_error(self):
        for refusal in ALL:
            self.assertEqual(refusal.__bases__, (PlanError,), refusal)

    def test_none_stands_under_another_one(self):
        for one in ALL:
            for other in ALL:
                self.assertEqual(issubclass(one, other), one == other, (one, other))

    def test_none_stands_under_an_error_of_python_besides(self):
        for refusal in (PlanError,) + ALL:
            for other in (LookupError, TypeError, ArithmeticError, RuntimeError):
                self.assertFalse(issubclass(refusal, other), (refusal, other))


class Making(unittest.TestCase):
    def test_made_of_a_text_and_taken_by_each_name_above(self):
        for refusal in OF_A_TEXT:
            for taken in (refusal, PlanError, ValueError):
                with self.assertRaises(taken) as caught:
                    raise refusal("some words")
                self.assertIs(caught.exception.__class__, refusal)
                self.assertEqual(str(caught.exception), "some words")

    def test_plan_error_is_made_of_a_text(self):
        with self.assertRaises(ValueError):
            raise PlanError("some words")

    def test_no_plan_keeps_its_line(self):
        for line in (0, 1, 7, 399, 10 ** 39, -3):
            for taken in (NoPlan, PlanError, ValueError):
                with self.assertRaises(taken) as caught:
                    raise NoPlan(line)
                self.assertEqual(caught.exception.line, line)

    def test_two_of_no_plan_keep_a_line_each(self):
        first, second = NoPlan(3), NoPlan(5)
        self.assertEqual((first.line, second.line), (3, 5))

    def test_no_plan_is_made_of_just_one_thing(self):
        with self.assertRaises(TypeError):
            NoPlan()

    def test_one_refusal_is_not_taken_by_another_name(self):
        for refusal in OF_A_TEXT:
            with self.assertRaises(refusal):
                try:
                    raise refusal("some words")
                except tuple([other for other in ALL if other != refusal]):
                    self.fail(refusal)


if __name__ == "__main__":
    unittest.main()
