import unittest

from helper import GREATEST_LONG, LEAST_LONG, LONG_NUMBERS, SEVENS, THREES
from helper import SoonTest, long_fibonacci_pair, refused_alike
from sawsign.errors import NoCount, NotApart
from sawsign.wholes import power_by, shared, turned


def greatest_gone_through(a, b):
    """The greatest divisor of both, by trying all; a and b are not both 0."""
    highest = max(abs(a), abs(b))
    return max(d for d in range(1, highest + 1) if a % d == 0 and b % d == 0)


def product_gone_through(a, k, m):
    product = 1
    for _ in range(k):
        product *= a
    return product % m


class Shared(SoonTest):
    def test_written_out(self):
        for a, b, told in [(12, 18, 6), (-12, 18, 6), (12, -18, 6), (-12, -18, 6), (7, 5, 1), (1, 1, 1)]:
            self.assertEqual(shared(a, b), told)

    def test_nought(self):
        self.assertEqual(shared(0, 0), 0)
        for a in (1, -1, 5, -5, 60, GREATEST_LONG, -GREATEST_LONG):
            self.assertEqual(shared(a, 0), abs(a))
            self.assertEqual(shared(0, a), abs(a))

    def test_small_ones_gone_through(self):
        for a in range(-30, 31):
            for b in range(-30, 31):
                if (a, b) != (0, 0):
                    self.assertEqual(shared(a, b), greatest_gone_through(a, b), (a, b))

    def test_what_is_left_shares_nothing(self):
        numbers = [0, 1, 2, 6, -35, 360] + LONG_NUMBERS + [-number for number in LONG_NUMBERS]
        for a in numbers:
            for b in numbers:
                if (a, b) == (0, 0):
                    continue
                told = shared(a, b)
                self.assertIs(type(told), int)
                self.assertGreater(told, 0)
                self.assertEqual((a % told, b % told), (0, 0))
                self.assertEqual(shared(a // told, b // told), 1)

    def test_long_ones(self):
        g = 2 ** 200 * 3 ** 40
        self.assertEqual(shared(g * 5 ** 30, g * 7 ** 30), g)
        self.assertEqual(shared(-g * 5 ** 30, g * 7 ** 30), g)
        self.assertEqual(shared(THREES, 3 ** 100 * 7), 3 ** 100)
        self.assertEqual(shared(THREES, SEVENS), 1)
        self.assertEqual(shared(LEAST_LONG, GREATEST_LONG), 1)
        low, high = long_fibonacci_pair()
        self.assertEqual(shared(low, high), 1)


class Turned(SoonTest):
    def test_written_out(self):
        for a, m, told in [(3, 7, 5), (-3, 7, 2), (10, 7, 5), (1, 2, 1), (-1, 2, 1), (-1, 9, 8), (1, 9, 1)]:
            self.assertEqual(turned(a, m), told)

    def test_by_one_it_is_nought(self):
        for a in [-5, -1, 0, 1, 2, 17] + LONG_NUMBERS:
            self.assertEqual(turned(a, 1), 0)

    def test_small_ones_gone_through(self):
        for m in range(2, 31):
            for a in range(-2 * m, 2 * m + 1):
                fitting = [x for x in range(m) if a * x % m == 1]
                if fitting:
                    self.assertEqual([turned(a, m)], fitting, (a, m))
                else:
                    with self.assertRaises(NotApart):
                        turned(a, m)

    def test_long_ones(self):
        low, high = long_fibonacci_pair()
        for a, m in [(THREES, SEVENS), (SEVENS, THREES), (LEAST_LONG, GREATEST_LONG), (low, high), (2, THREES)]:
            for signed in (a, -a):
                told = turned(signed, m)
                self.assertTrue(0 <= told < m)
                self.assertEqual(signed * told % m, 1)

    def test_not_apart(self):
        for a, m in [(0, 2), (0, 15), (2, 4), (-2, 4), (6, 9), (5, 5), (THREES, 3), (-3, THREES), (0, GREATEST_LONG)]:
            refused_alike(self, NotApart, turned, a, m)

    def test_m_below_one(self):
        for a in (0, 1, -1, 2, 6, THREES):
            for m in (0, -1, -2, -6, -GREATEST_LONG):
                refused_alike(self, NoCount, turned, a, m)

    def test_answered_as_before_behind_refusals(self):
        self.assertEqual(turned(3, 7), 5)
        refused_alike(self, NotApart, turned, 7, 7)
        refused_alike(self, NoCount, turned, 3, 0)
        self.assertEqual(turned(3, 7), 5)


class PowerBy(SoonTest):
    def test_written_out(self):
        for a, k, m, told in [(2, 10, 1000, 24), (3, 4, 5, 1), (-2, 3, 5, 2), (-1, 2, 7, 1), (-1, 3, 7, 6), (5, 1, 3, 2)]:
            self.assertEqual(power_by(a, k, m), told)

    def test_taken_no_times(self):
        for a in [0, 1, -1, 5, -5, THREES, -THREES]:
            for m in [2, 3, 10, GREATEST_LONG]:
                self.assertEqual(power_by(a, 0, m), 1)

    def test_by_one_it_is_nought(self):
        for a in [0, 1, -1, 5, GREATEST_LONG]:
            for k in [0, 1, 2, 7, GREATEST_LONG]:
                self.assertEqual(power_by(a, k, 1), 0)

    def test_nought_taken_some_times(self):
        for k in [1, 2, GREATEST_LONG]:
            self.assertEqual(power_by(0, k, 7), 0)

    def test_small_ones_gone_through(self):
        for m in range(1, 13):
            for a in range(-13, 14):
                for k in range(10):
                    self.assertEqual(power_by(a, k, m), product_gone_through(a, k, m), (a, k, m))

    def test_long_ones_told_soon(self):
        for m in LONG_NUMBERS:
            for k in LONG_NUMBERS:
                for a in (THREES, -SEVENS, 2):
                    told = power_by(a, k, m)
                    self.assertEqual(told, pow(a, k, m))

    def test_k_below_nought(self):
        for k in (-1, -2, -GREATEST_LONG):
            for a in (0, 1, 3):
                for m in (1, 7, GREATEST_LONG):
                    refused_alike(self, NoCount, power_by, a, k, m)

    def test_m_below_one(self):
        for m in (0, -1, -7, -GREATEST_LONG):
            for k in (0, 1, 5):
                refused_alike(self, NoCount, power_by, 3, k, m)

    def test_both_too_small(self):
        refused_alike(self, NoCount, power_by, 3, -1, 0)
        refused_alike(self, NoCount, power_by, 0, -GREATEST_LONG, -GREATEST_LONG)

    def test_answered_as_before_behind_refusals(self):
        self.assertEqual(power_by(2, 10, 1000), 24)
        refused_alike(self, NoCount, power_by, 2, -10, 1000)
        self.assertEqual(power_by(2, 10, 1000), 24)


if __name__ == "__main__":
    unittest.main()
