import math
import unittest

from helper import GREATEST_LONG, LEAST_LONG, LONG_NUMBERS, SEVENS, THREES
from helper import SoonTest, refused_alike
from sawsign.errors import NoCount, NotApart, NotOdd, TooMany
from sawsign.floors import points_under
from sawsign.halves import half_rows, overs_of


def half_rows_by_words(a, m):
    rows = []
    for k in range(1, (m - 1) // 2 + 1):
        rest = a * k % m
        rows.append((k, rest, 1) if rest < m - rest else (k, m - rest, -1))
    return rows


def overs_gone_through(a, m):
    return len([k for k in range(1, (m - 1) // 2 + 1) if 2 * (a * k % m) > m])


class HalfRows(SoonTest):
    def test_written_out(self):
        self.assertEqual(half_rows(3, 7), [(1, 3, 1), (2, 1, -1), (3, 2, 1)])
        self.assertEqual(half_rows(-1, 7), [(1, 1, -1), (2, 2, -1), (3, 3, -1)])
        self.assertEqual(half_rows(2, 3), [(1, 1, -1)])
        self.assertEqual(half_rows(8, 9), [(1, 1, -1), (2, 2, -1), (3, 3, -1), (4, 4, -1)])

    def test_by_one(self):
        for a in [0, 1, -1, 2, THREES]:
            self.assertEqual(half_rows(a, 1), [])

    def test_each_odd_m(self):
        for m in list(range(1, 32, 2)) + [195, 197, 199]:
            for a in list(range(-m, 2 * m)) + [THREES, -SEVENS, LEAST_LONG]:
                if math.gcd(a, m) == 1:
                    told = half_rows(a, m)
                    self.assertIs(type(told), list)
                    self.assertTrue(all(type(row) is tuple for row in told))
                    self.assertEqual(told, half_rows_by_words(a, m))
                    self.assertEqual(sorted(near for k, near, sign in told), list(range(1, (m + 1) // 2)))

    def test_a_told_list_is_the_askers_own(self):
        told = half_rows(2, 3)
        told.append((2, 2, 1))
        told[0] = (0, 0, 0)
        self.assertEqual(half_rows(2, 3), [(1, 1, -1)])
        half_rows(2, 1).append(1)
        self.assertEqual(half_rows(2, 1), [])

    def test_m_below_one(self):
        for a in (0, 1, 2, THREES):
            for m in (0, -1, -2, -201, -202, -GREATEST_LONG, -LEAST_LONG):
                refused_alike(self, NoCount, half_rows, a, m)

    def test_even_m(self):
        for m in (2, 4, 200, 202, 400, LEAST_LONG):
            for a in (0, 1, 2, 3, m, THREES):
                refused_alike(self, NotOdd, half_rows, a, m)

    def test_m_too_great(self):
        for m in (201, 203, 399, THREES, GREATEST_LONG):
            for a in (0, 1, 2, 3, m, -m, SEVENS):
                refused_alike(self, TooMany, half_rows, a, m)

    def test_not_apart(self):
        for a, m in [(0, 3), (0, 199), (3, 9), (-6, 9), (199, 199), (THREES, 15), (5, 195), (3 * 10 ** 100, 33)]:
            refused_alike(self, NotApart, half_rows, a, m)

    def test_answered_as_before_behind_refusals(self):
        for error, a, m in [(NoCount, 3, 0), (NotOdd, 3, 8), (TooMany, 2, 201), (NotApart, 7, 7)]:
            refused_alike(self, error, half_rows, a, m)
            self.assertEqual(half_rows(3, 7), [(1, 3, 1), (2, 1, -1), (3, 2, 1)])


class OversOf(SoonTest):
    def test_written_out(self):
        for a, m, told in [(3, 7, 1), (-1, 7, 3), (0, 7, 0), (7, 7, 0), (2, 3, 1), (6, 9, 2), (3, 9, 1), (5, 1, 0)]:
            self.assertEqual(overs_of(a, m), told)

    def test_small_ones_gone_through(self):
        for m in range(1, 46, 2):
            for a in range(-50, 51):
                self.assertEqual(overs_of(a, m), overs_gone_through(a, m), (a, m))

    def test_some_greater_ones_gone_through(self):
        for m in (199, 201, 999, 1001):
            for a in [3, 10, m, -m, m + 1] + LONG_NUMBERS:
                self.assertEqual(overs_of(a, m), overs_gone_through(a, m))

    def test_the_signs_that_are_below_nought(self):
        for m in (1, 9, 25, 199):
            for a in (1, 2, 7, -4, SEVENS):
                if math.gcd(a, m) == 1:
                    below = [row for row in half_rows(a, m) if row[2] == -1]
                    self.assertEqual(overs_of(a, m), len(below))

    def test_by_points(self):
        for m in (1, 3, 15, 101, THREES, SEVENS, GREATEST_LONG):
            for a in (0, 1, -1, 5, 15, -THREES, SEVENS, LEAST_LONG):
                self.assertEqual(overs_of(a, m), points_under(2 * a, m) - 2 * points_under(a, m))

    def test_long_ones(self):
        for m in (THREES, SEVENS, GREATEST_LONG):
            half = (m - 1) // 2
            self.assertEqual(overs_of(1, m), 0)
            self.assertEqual(overs_of(-1, m), half)
            self.assertEqual(overs_of(m, m), 0)
            self.assertEqual(overs_of(0, m), 0)
            # The rest of 2 k is 2 k itself, so those of the k above m / 4 go over.
            self.assertEqual(overs_of(2, m), half - m // 4)
            self.assertEqual(overs_of(2 - m, m), half - m // 4)
            self.assertEqual(overs_of(-2, m), m // 4)

    def test_even_m(self):
        for m in (2, 4, 200, LEAST_LONG):
            for a in (0, 1, 2, -3, THREES):
                refused_alike(self, NotOdd, overs_of, a, m)

    def test_m_below_one(self):
        for m in (0, -1, -2, -7, -LEAST_LONG, -GREATEST_LONG):
            for a in (0, 1, 2, -3, THREES):
                refused_alike(self, NoCount, overs_of, a, m)

    def test_answered_as_before_behind_refusals(self):
        refused_alike(self, NotOdd, overs_of, 3, 8)
        refused_alike(self, NoCount, overs_of, 3, 0)
        self.assertEqual(overs_of(3, 7), 1)


if __name__ == "__main__":
    unittest.main()
