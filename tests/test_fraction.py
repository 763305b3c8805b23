"""The program's own fractions, against Python's."""

import unittest
from fractions import Fraction

from reallyowned.fraction import is_above, lowest, minus, over, plus, times, total, whole

PAIRS = [(upper, lower) for lower in (1, 2, 3, 4, 6, 9, 100) for upper in range(-7, 8, 2)] + [(0, 1), (0, 5), (100, 10)]


def pair(value):
    return (value.numerator, value.denominator)


class Reckoning(unittest.TestCase):
    def test_lowest_form(self):
        for upper, lower in PAIRS:
            self.assertEqual(lowest(upper, lower), pair(Fraction(upper, lower)))
        self.assertEqual(lowest(0, 100), (0, 1))
        self.assertEqual(whole(7), (7, 1))

    def test_two_together(self):
        for x in [Fraction(*one) for one in PAIRS]:
            for y in [Fraction(*one) for one in PAIRS]:
                self.assertEqual(plus(pair(x), pair(y)), pair(x + y))
                self.assertEqual(minus(pair(x), pair(y)), pair(x - y))
                self.assertEqual(times(pair(x), pair(y)), pair(x * y))
                self.assertEqual(is_above(pair(x), pair(y)), x > y)
                if y > 0:
                    self.assertEqual(over(pair(x), pair(y)), pair(x / y))

    def test_many_together(self):
        values = [Fraction(*one) for one in PAIRS]
        self.assertEqual(total([pair(value) for value in values]), pair(sum(values)))
        self.assertEqual(total([]), (0, 1))


if __name__ == "__main__":
    unittest.main()
