import math
import unittest
from fractions import Fraction

from helper import GREATEST_LONG, LEAST_LONG, SEVENS, THREES, SoonTest, long_fibonacci_pair, pair_of, refused_alike
from sawsign.errors import NoFraction
from sawsign.fractions import fraction, minus, over, plus, times

# Each has 200 figures, the most that tops and bottoms of fractions have here.
LONGEST = [10 ** 199, 10 ** 200 - 1, 3 ** 418, 7 ** 236]
SHORT = [pair_of(Fraction(top, bottom)) for top in range(-7, 8) for bottom in range(1, 8)]
LONG = [pair_of(Fraction(sign * top, bottom)) for top in LONGEST + [0, 1] for bottom in LONGEST + [1, 6]
        for sign in (1, -1)]
NOUGHT = (0, 1)


class Made(SoonTest):
    def check_made(self, top, bottom):
        told = fraction(top, bottom)
        self.assertIs(type(told), tuple)
        self.assertTrue(all(type(number) is int for number in told))
        self.assertEqual(told, pair_of(Fraction(top, bottom)), (top, bottom))
        self.assertGreaterEqual(told[1], 1)
        self.assertEqual(math.gcd(told[0], told[1]), 1)

    def test_written_out(self):
        for top, bottom, told in [
            (1, 2, (1, 2)), (2, 4, (1, 2)), (-2, 4, (-1, 2)), (2, -4, (-1, 2)), (-2, -4, (1, 2)), (6, 3, (2, 1)),
            (6, -3, (-2, 1)), (0, 5, NOUGHT), (0, -5, NOUGHT), (0, 1, NOUGHT), (7, 1, (7, 1)), (7, -1, (-7, 1)),
        ]:
            self.assertEqual(fraction(top, bottom), told)

    def test_small_ones_of_either_sign(self):
        for top in range(-40, 41):
            for bottom in range(-40, 41):
                if bottom != 0:
                    self.check_made(top, bottom)

    def test_long_ones_of_either_sign(self):
        low, high = long_fibonacci_pair()
        numbers = LONGEST + [low, high, GREATEST_LONG, LEAST_LONG, THREES, SEVENS, 1, 6]
        for number in numbers:
            self.assertEqual(fraction(0, number), NOUGHT)
            self.assertEqual(fraction(0, -number), NOUGHT)
            self.assertEqual(fraction(-number, -number), (1, 1))
            for other in numbers:
                for top, bottom in [(number, other), (-number, other), (number, -other), (-number, -other)]:
                    self.check_made(top, bottom)

    def test_a_bottom_of_nought(self):
        for top in [0, 1, -1, 2, THREES, -GREATEST_LONG] + LONGEST:
            refused_alike(self, NoFraction, fraction, top, 0)

    def test_answered_as_before_behind_refusals(self):
        refused_alike(self, NoFraction, fraction, 2, 0)
        self.assertEqual(fraction(2, 4), (1, 2))


class Reckoned(SoonTest):
    def check_reckoned(self, x, y):
        one = Fraction(x[0], x[1])
        other = Fraction(y[0], y[1])
        for ask, worth in [(plus, one + other), (minus, one - other), (times, one * other)]:
            told = ask(x, y)
            self.assertIs(type(told), tuple)
            self.assertEqual(told, pair_of(worth), (ask, x, y))
        if y != NOUGHT:
            self.assertEqual(over(x, y), pair_of(one / other), (x, y))

    def test_written_out(self):
        self.assertEqual(plus((1, 2), (1, 3)), (5, 6))
        self.assertEqual(plus((1, 2), (-1, 2)), NOUGHT)
        self.assertEqual(minus((1, 2), (1, 3)), (1, 6))
        self.assertEqual(minus((1, 3), (1, 2)), (-1, 6))
        self.assertEqual(minus((1, 3), (1, 3)), NOUGHT)
        self.assertEqual(times((2, 3), (3, 4)), (1, 2))
        self.assertEqual(times((-2, 3), NOUGHT), NOUGHT)
        self.assertEqual(over((1, 2), (-3, 4)), (-2, 3))
        self.assertEqual(over((-1, 2), (-3, 4)), (2, 3))
        self.assertEqual(over(NOUGHT, (-3, 4)), NOUGHT)

    def test_short_ones(self):
        for x in SHORT:
            for y in SHORT:
                self.check_reckoned(x, y)

    def test_long_ones(self):
        for x in LONG:
            for y in LONG:
                self.check_reckoned(x, y)

    def test_a_quotient_by_nought(self):
        for x in [NOUGHT, (1, 1), (-1, 2), (5, 3), LONG[0], LONG[-1]]:
            refused_alike(self, NoFraction, over, x, NOUGHT)
            self.assertEqual(over(NOUGHT, (5, 3)), NOUGHT)

    def test_a_bottom_of_nought(self):
        for ask in (plus, minus, times, over):
            for top in (0, 1, -3, THREES):
                refused_alike(self, NoFraction, ask, (top, 0), (1, 2))
                refused_alike(self, NoFraction, ask, (1, 2), (top, 0))
                refused_alike(self, NoFraction, ask, (top, 0), (top, 0))

    def test_answered_as_before_behind_refusals(self):
        refused_alike(self, NoFraction, over, (1, 2), NOUGHT)
        self.assertEqual(over((1, 2), (-3, 4)), (-2, 3))


if __name__ == "__main__":
    unittest.main()
