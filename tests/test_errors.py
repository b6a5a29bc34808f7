import unittest

from leastasks import errors

NAMES = [
    "WrongSize", "NoAsk", "NoWord", "Twice", "WrongAnswers", "Unlike",
    "NoPlace", "NoText", "WrongPrices", "WrongWeights", "NoPlan",
]


class Errors(unittest.TestCase):
    def setUp(self):
        self.refusals = [getattr(errors, name) for name in NAMES]

    def test_ask_error_stands_straight_under_value_error(self):
        self.assertEqual(errors.AskError.__bases__, (ValueError,))

    def test_each_refusal_stands_straight_under_ask_error(self):
        for refusal in self.refusals:
            with self.subTest(refusal=refusal):
                self.assertEqual(refusal.__bases__, (errors.AskError,))

    def test_each_refusal_is_called_and_placed_as_told(self):
        for name, refusal in zip(NAMES, self.refusals):
            self.assertEqual(refusal.__name__, name)
            self.assertEqual(refusal.__module__, "leastasks.errors")

    def test_no_refusal_is_another_one(self):
        for one in self.refusals:
            for other in self.refusals:
                self.assertEqual(issubclass(one, other), one.__name__ == other.__name__, (one, other))

    def test_a_raised_refusal_is_taken_as_itself_and_as_those_above_it(self):
        for refusal in self.refusals:
            for taken in (refusal, errors.AskError, ValueError):
                with self.assertRaises(taken) as caught:
                    raise refusal("words")
                self.assertIs(type(caught.exception), refusal)


if __name__ == "__main__":
    unittest.main()
