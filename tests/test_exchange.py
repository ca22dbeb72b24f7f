import math
import unittest

from helper import GREATEST_LONG, LEAST_LONG, LONG_NUMBERS, SEVENS, THREES
from helper import SoonTest, long_fibonacci_pair, refused_alike
from sawsign.errors import NoCount, NotApart, NotOdd
from sawsign.exchange import exchanged, shuffle_sign, sign_rows
from sawsign.shuffles import shuffle_of, sign_of

ODD_LONG = [GREATEST_LONG, THREES, SEVENS]


def rows_by_words(a, m):
    """Point 21 word for word, a row behind the other."""
    rows = [(a, m, 1)]
    while True:
        a, m, sign = rows[-1]
        if not 0 <= a <= m - 1:
            rows.append((a % m, m, sign))
        elif a == 0:
            return rows
        elif a % 2 == 0:
            rows.append((a // 2, m, sign * {1: 1, 3: -1, 5: -1, 7: 1}[m % 8]))
        else:
            rows.append((m, a, sign * (-1 if a % 4 == m % 4 == 3 else 1)))


def sign_by_primes(a, m):
    """The product of the signs of being a square by each prime of m, each taken as often as it divides m."""
    sign = 1
    q = 3
    while m > 1:
        while m % q == 0:
            squares = [r * r % q for r in range(1, q)]
            sign *= 0 if a % q == 0 else 1 if a % q in squares else -1
            m //= q
        q += 2
    return sign


class SignRows(SoonTest):
    def test_written_out(self):
        self.assertEqual(sign_rows(0, 1), [(0, 1, 1)])
        self.assertEqual(sign_rows(5, 1), [(5, 1, 1), (0, 1, 1)])
        self.assertEqual(sign_rows(0, 9), [(0, 9, 1)])
        self.assertEqual(sign_rows(3, 7), [(3, 7, 1), (7, 3, -1), (1, 3, -1), (3, 1, -1), (0, 1, -1)])
        self.assertEqual(sign_rows(-1, 3), [(-1, 3, 1), (2, 3, 1), (1, 3, -1), (3, 1, -1), (0, 1, -1)])
        self.assertEqual(sign_rows(7, 7), [(7, 7, 1), (0, 7, 1)])
        self.assertEqual(sign_rows(6, 9), [(6, 9, 1), (3, 9, 1), (9, 3, 1), (0, 3, 1)])
        self.assertEqual(sign_rows(4, 5), [(4, 5, 1), (2, 5, -1), (1, 5, 1), (5, 1, 1), (0, 1, 1)])

    def check_rows(self, a, m):
        rows = sign_rows(a, m)
        self.assertIs(type(rows), list)
        self.assertTrue(all(type(row) is tuple for row in rows))
        self.assertEqual(rows, rows_by_words(a, m))

    def test_small_ones(self):
        for m in range(1, 60, 2):
            for a in range(-70, 71):
                self.check_rows(a, m)

    def test_long_ones(self):
        low, high = long_fibonacci_pair()
        for m in ODD_LONG + [number for number in (low, high) if number % 2 == 1]:
            for a in LONG_NUMBERS + [0, 1, 2, -1, low, high, 2 ** 400, m - 1, m, -m]:
                self.check_rows(a, m)
                self.check_rows(-a, m)

    def test_a_told_list_is_the_askers_own(self):
        told = sign_rows(5, 1)
        told.append((0, 0, 0))
        told[0] = None
        self.assertEqual(sign_rows(5, 1), [(5, 1, 1), (0, 1, 1)])


class Exchanged(SoonTest):
    def test_written_out(self):
        for a, m, told in [(3, 7, -1), (2, 7, 1), (2, 15, 1), (-1, 3, -1), (0, 1, 1), (0, 3, 0), (6, 9, 0), (7, 7, 0)]:
            self.assertEqual(exchanged(a, m), told)

    def test_by_one(self):
        for a in [0, 1, -1, 2, 17] + LONG_NUMBERS:
            self.assertEqual(exchanged(a, 1), 1)

    def test_small_ones_by_primes(self):
        for m in range(1, 100, 2):
            for a in range(-60, 61):
                self.assertEqual(exchanged(a, m), sign_by_primes(a, m), (a, m))

    def test_nought_just_where_not_apart(self):
        for m in list(range(1, 60, 2)) + ODD_LONG:
            for a in list(range(-40, 41)) + LONG_NUMBERS:
                told = exchanged(a, m)
                self.assertIs(type(told), int)
                self.assertIn(told, (-1, 0, 1))
                self.assertEqual(told == 0, math.gcd(a, m) != 1)

    def test_the_sign_of_the_shuffle(self):
        for m in range(1, 60, 2):
            for a in range(-m, m + 1):
                if math.gcd(a, m) == 1:
                    self.assertEqual(exchanged(a, m), sign_of(shuffle_of(a, m)))

    def test_products(self):
        numbers = [-9, -2, -1, 0, 1, 2, 3, 5, 10, 15, 21, 10 ** 60 + 1, 3 ** 100, -7 ** 70]
        odd = [1, 3, 5, 7, 9, 15, 21, 35, 10 ** 60 + 1, 3 ** 100, 7 ** 70]
        for m in odd:
            for a in numbers:
                for b in numbers:
                    self.assertEqual(exchanged(a * b, m), exchanged(a, m) * exchanged(b, m))
                for n in odd:
                    self.assertEqual(exchanged(a, m * n), exchanged(a, m) * exchanged(a, n))

    def test_two_odd_numbers_exchanged(self):
        for m in list(range(1, 40, 2)) + ODD_LONG:
            for a in list(range(1, 40, 2)) + ODD_LONG:
                other = -1 if a % 4 == m % 4 == 3 else 1
                self.assertEqual(exchanged(a, m), other * exchanged(m, a))

    def test_long_ones(self):
        for m in ODD_LONG:
            self.assertEqual(exchanged(-1, m), 1 if m % 4 == 1 else -1)
            self.assertEqual(exchanged(2, m), 1 if m % 8 in (1, 7) else -1)
            self.assertEqual(exchanged(m + 4, m), 1)
            self.assertEqual(exchanged(m, m), 0)
        self.assertEqual(exchanged(SEVENS, THREES), exchanged(7, 3) ** (153 * 271))
        self.assertEqual(exchanged(LEAST_LONG, THREES), exchanged(10, 3) ** (129 * 271))
        self.assertEqual(exchanged(-5, SEVENS), exchanged(-5, 7) ** 153)

    def test_refusals(self):
        for ask in (sign_rows, exchanged):
            for a in (0, 1, 2, -3, THREES):
                for m in (0, -1, -2, -3, -8, -LEAST_LONG, -GREATEST_LONG):
                    refused_alike(self, NoCount, ask, a, m)
                for m in (2, 4, 6, 8, 100, LEAST_LONG):
                    refused_alike(self, NotOdd, ask, a, m)
            told = ask(3, 7)
            refused_alike(self, NotOdd, ask, 3, 8)
            self.assertEqual(ask(3, 7), told)


class ShuffleSign(SoonTest):
    def test_each_m_to_sixty(self):
        for m in range(1, 61):
            for a in range(-2 * m - 1, 2 * m + 2):
                if math.gcd(a, m) == 1:
                    self.assertEqual(shuffle_sign(a, m), sign_of(shuffle_of(a, m)), (a, m))
                else:
                    with self.assertRaises(NotApart):
                        shuffle_sign(a, m)

    def test_greatest_shuffles(self):
        for m in (196, 197, 198, 199, 200):
            for a in range(-50, 50):
                if math.gcd(a, m) == 1:
                    self.assertEqual(shuffle_sign(a, m), sign_of(shuffle_of(a, m)))

    def test_by_one_and_two(self):
        for a in [0, 1, 2, -1, GREATEST_LONG]:
            self.assertEqual(shuffle_sign(a, 1), 1)
        for a in [1, -1, 3, GREATEST_LONG, -GREATEST_LONG]:
            self.assertEqual(shuffle_sign(a, 2), 1)

    def test_long_ones(self):
        for m in ODD_LONG:
            for a in (2, -2, 11, 2 ** 400, -11 ** 100):
                if math.gcd(a, m) == 1:
                    self.assertEqual(shuffle_sign(a, m), exchanged(a, m))
        for a in (1, 5, -3, 13 ** 100, -THREES, THREES):
            if math.gcd(a, LEAST_LONG) == 1:
                self.assertEqual(shuffle_sign(a, LEAST_LONG), 1 if a % 4 == 1 else -1)
            self.assertEqual(shuffle_sign(a, 2 ** 429), 1 if a % 4 == 1 else -1)
            self.assertEqual(shuffle_sign(a, 2 * 7 ** 150), 1)

    def test_m_below_one(self):
        for a in (0, 1, 2, -3, THREES):
            for m in (0, -1, -2, -3, -4, -GREATEST_LONG):
                refused_alike(self, NoCount, shuffle_sign, a, m)

    def test_not_apart(self):
        for a, m in [(0, 2), (0, 3), (0, 4), (2, 2), (2, 4), (-2, 6), (3, 6), (3, 9), (3, 12), (0, GREATEST_LONG),
                     (3, THREES), (THREES, 3), (-THREES, 12), (2, LEAST_LONG), (5, LEAST_LONG), (21, 2 * 7 ** 150)]:
            refused_alike(self, NotApart, shuffle_sign, a, m)

    def test_answered_as_before_behind_refusals(self):
        for error, a, m in [(NoCount, 3, 0), (NotApart, 3, 12)]:
            refused_alike(self, error, shuffle_sign, a, m)
            self.assertEqual(shuffle_sign(3, 7), -1)
            self.assertEqual(shuffle_sign(3, 8), -1)


if __name__ == "__main__":
    unittest.main()
