import unittest

from halveline import errors

REFUSALS = [
    errors.NoLine, errors.Empty, errors.NoText, errors.NoFlat, errors.NoShare,
    errors.NoRows, errors.Lacking, errors.NoRow, errors.NoName,
]


class Errors(unittest.TestCase):
    def test_line_error_stands_straight_under_value_error(self):
        self.assertEqual(errors.LineError.__bases__, (ValueError,))

    def test_each_refusal_stands_straight_under_line_error(self):
        for refusal in REFUSALS:
            with self.subTest(refusal=refusal.__name__):
                self.assertEqual(refusal.__bases__, (errors.LineError,))

    def test_there_are_nine_and_none_is_under_another_one(self):
        self.assertEqual(len(set(REFUSALS)), 9)
        for one in REFUSALS:
            for other in REFUSALS:
                if one is not other:
                    self.assertFalse(issubclass(one, other), (one, other))

    def test_each_bears_its_name(self):
        names = ["NoLine", "Empty", "NoText", "NoFlat", "NoShare", "NoRows", "Lacking", "NoRow", "NoName"]
        self.assertEqual([refusal.__name__ for refusal in REFUSALS], names)

    def test_made_of_nothing_or_of_a_text_raised_and_caught(self):
        for refusal in [errors.LineError] + REFUSALS:
            for caught_as in (refusal, errors.LineError, ValueError):
                with self.subTest(refusal=refusal.__name__, caught_as=caught_as.__name__):
                    with self.assertRaises(caught_as) as of_nothing:
                        raise refusal()
                    with self.assertRaises(caught_as) as of_text:
                        raise refusal("why not")
                    self.assertIsInstance(of_nothing.exception, refusal)
                    self.assertIsInstance(of_text.exception, refusal)
                    self.assertEqual(str(of_text.exception), "why not")


if __name__ == "__main__":
    unittest.main()
