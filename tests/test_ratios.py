import inspect
import math
import unittest

from leastasks.ratios import fraction

MILLION = 10 ** 6
GREAT = MILLION * MILLION


class Fractions(unittest.TestCase):
    def assert_told(self, top, bottom, wanted):
        told = fraction(top, bottom)
        self.assertEqual(told, wanted, (top, bottom))
        self.assertEqual([type(told), type(told[0]), type(told[1])], [tuple, int, int])

    def test_the_arguments_are_called_as_told(self):
        self.assertEqual(list(inspect.signature(fraction).parameters), ["top", "bottom"])
        self.assertEqual(fraction(bottom=8, top=6), (3, 4))

    def test_every_small_fraction(self):
        for top in range(70):
            for bottom in range(1, 70):
                told = fraction(top, bottom)
                self.assertEqual(told[0] * bottom, told[1] * top)
                self.assertEqual(math.gcd(told[0], told[1]), 1)
                self.assertGreaterEqual(told[1], 1)
                self.assert_told(top, bottom, told)

    def test_ordinary_ones(self):
        self.assert_told(1, 2, (1, 2))
        self.assert_told(2, 4, (1, 2))
        self.assert_told(48, 64, (3, 4))
        self.assert_told(7, 3, (7, 3))
        self.assert_told(6, 3, (2, 1))
        self.assert_told(5, 5, (1, 1))

    def test_the_top_0(self):
        for bottom in (1, 2, 3, 64, 729, GREAT):
            self.assert_told(0, bottom, (0, 1))

    def test_great_numbers(self):
        self.assert_told(GREAT, GREAT, (1, 1))
        self.assert_told(GREAT, 1, (GREAT, 1))
        self.assert_told(1, GREAT, (1, GREAT))
        self.assert_told(GREAT - 1, GREAT, (GREAT - 1, GREAT))
        self.assert_told(GREAT, GREAT - 1, (GREAT, GREAT - 1))
        self.assert_told(MILLION, GREAT, (1, MILLION))
        self.assert_told(3 * 299999999977, 3 * 299999999978, (299999999977, 299999999978))
        self.assert_told(2 ** 39, 6 ** 15, (2 ** 24, 3 ** 15))
        # Two neighbours in Fibonacci's row ask most steps of whoever looks for their divisor.
        self.assert_told(591286729879, 956722026041, (591286729879, 956722026041))
        self.assert_told(2 * 225851433717, 2 * 365435296162, (225851433717, 365435296162))


if __name__ == "__main__":
    unittest.main()
