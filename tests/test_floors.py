import math
import unittest

from helper import GREATEST_LONG, LEAST_LONG, LONG_NUMBERS, SEVENS, THREES
from helper import SoonTest, long_fibonacci_pair, refused_alike
from sawsign.errors import NoCount, NotOdd, TooMany
from sawsign.euclid import steps_of
from sawsign.floors import parts_of, points_under, sum_rows, whole_sum

NEAR_NOUGHT = [-LEAST_LONG, -29, -7, -3, -1, 0, 1, 2, 5, 7, 12, 40, THREES]


def floor_by_words(top, bottom):
    """The greatest whole number that is not above top / bottom."""
    told = top // bottom
    assert told * bottom <= top < (told + 1) * bottom
    return told


def parts_gone_through(n, m, a, b):
    return [floor_by_words(a * k + b, m) for k in range(n)]


def rows_by_words(n, m, a, b):
    """Point 14 word for word, a row behind the other."""
    more = n * (n - 1) // 2 * floor_by_words(a, m) + n * floor_by_words(b, m)
    y = a % m * n + b % m
    if y < m:
        return [(n, m, a, b, more)]
    return [(n, m, a, b, more)] + rows_by_words(floor_by_words(y, m), a % m, m, y % m)


def long_fours():
    low, high = long_fibonacci_pair()
    fours = [(high, high, low, 0), (low, high, low, high - 1), (high, low, high, -1), (high, high, -low, -low)]
    for n in LONG_NUMBERS:
        for m in LONG_NUMBERS:
            fours += [(n, m, THREES, -SEVENS), (n, m, -GREATEST_LONG, LEAST_LONG), (n, m, 2, 3), (n, m, 0, 0)]
    return fours + [(GREATEST_LONG, 1, GREATEST_LONG, GREATEST_LONG), (GREATEST_LONG, 2, -1, 0)]


class PartsOf(SoonTest):
    def test_written_out(self):
        self.assertEqual(parts_of(5, 3, 2, 1), [0, 1, 1, 2, 3])
        self.assertEqual(parts_of(4, 3, -1, 0), [0, -1, -1, -1])
        self.assertEqual(parts_of(3, 2, 0, -1), [-1, -1, -1])
        self.assertEqual(parts_of(3, 1, 5, -2), [-2, 3, 8])

    def test_none(self):
        for m in [1, 2, 7, SEVENS]:
            for a in NEAR_NOUGHT:
                self.assertEqual(parts_of(0, m, a, -a), [])

    def test_small_ones(self):
        for n in (1, 2, 7, 200):
            for m in (1, 2, 3, 10, 201):
                for a in NEAR_NOUGHT:
                    for b in (-11, -1, 0, 1, 6, -SEVENS):
                        self.assertEqual(parts_of(n, m, a, b), parts_gone_through(n, m, a, b))

    def test_long_ones(self):
        for m in LONG_NUMBERS:
            for a in LONG_NUMBERS:
                told = parts_of(200, m, -a, a - 1)
                self.assertIs(type(told), list)
                self.assertEqual(len(told), 200)
                self.assertEqual(told, parts_gone_through(200, m, -a, a - 1))

    def test_a_told_list_is_the_askers_own(self):
        told = parts_of(3, 1, 5, -2)
        told.append(4)
        told[0] = 0
        self.assertEqual(parts_of(3, 1, 5, -2), [-2, 3, 8])
        parts_of(0, 1, 0, 0).append(1)
        self.assertEqual(parts_of(0, 1, 0, 0), [])

    def test_too_many(self):
        for n in [201, 202, 1000] + LONG_NUMBERS:
            for m in [1, 2, 300, THREES]:
                refused_alike(self, TooMany, parts_of, n, m, 3, -2)

    def test_too_many_by_m_below_one(self):
        for n in [201, GREATEST_LONG]:
            for m in [0, -1, -GREATEST_LONG]:
                refused_alike(self, NoCount, parts_of, n, m, 3, 2)

    def test_answered_as_before_behind_refusals(self):
        refused_alike(self, TooMany, parts_of, 201, 3, 2, 1)
        refused_alike(self, NoCount, parts_of, 5, 0, 2, 1)
        self.assertEqual(parts_of(5, 3, 2, 1), [0, 1, 1, 2, 3])


class WholeSum(SoonTest):
    def test_written_out(self):
        self.assertEqual(whole_sum(5, 3, 2, 1), 7)
        self.assertEqual(whole_sum(10, 7, 3, 2), 18)
        self.assertEqual(whole_sum(4, 3, -1, 0), -3)
        self.assertEqual(whole_sum(0, 3, 2, 1), 0)

    def test_small_ones_gone_through(self):
        for n in (0, 1, 2, 3, 9, 20):
            for m in range(1, 12):
                for a in range(-13, 14):
                    for b in range(-13, 14, 2):
                        self.assertEqual(whole_sum(n, m, a, b), sum(parts_gone_through(n, m, a, b)), (n, m, a, b))

    def test_two_hundred_and_more_gone_through(self):
        for n in (200, 201, 1000):
            for m in [1, 7, 96, 1009] + LONG_NUMBERS:
                for a in NEAR_NOUGHT:
                    self.assertEqual(whole_sum(n, m, a, 5), sum(parts_gone_through(n, m, a, 5)))

    def test_the_sum_of_the_parts_told(self):
        for n, m, a, b in [(200, 13, 8, 5), (200, THREES, SEVENS, -LEAST_LONG), (0, 5, 5, 5), (1, 4, 9, -9)]:
            self.assertEqual(whole_sum(n, m, a, b), sum(parts_of(n, m, a, b)))

    def test_long_ones_that_can_be_told_otherwise(self):
        for n in LONG_NUMBERS:
            self.assertEqual(whole_sum(n, 1, 1, 0), n * (n - 1) // 2)
            self.assertEqual(whole_sum(n, 1, -3, 2), 2 * n - 3 * n * (n - 1) // 2)
            self.assertEqual(whole_sum(n, 2, 1, 0), (n - 1) ** 2 // 4)
            self.assertEqual(whole_sum(n, n, 0, -1), -n)
            self.assertEqual(whole_sum(n, n, n - 1, 0), (n - 1) * (n - 2) // 2)

    def test_long_ones_over_a_whole_round(self):
        for a, m in [(THREES, SEVENS), (SEVENS, THREES), (-LEAST_LONG, GREATEST_LONG), long_fibonacci_pair()]:
            self.assertEqual(math.gcd(a, m), 1)
            # The rests that are left over are 0 to m - 1, each once.
            self.assertEqual(whole_sum(m, m, a, 0), (a - 1) * (m - 1) // 2)

    def test_long_ones_add_up_piece_by_piece(self):
        for n, m, a, b in long_fours():
            first = n // 3
            rest = whole_sum(n - first, m, a, b + a * first)
            self.assertEqual(whole_sum(n, m, a, b), whole_sum(first, m, a, b) + rest)
            self.assertEqual(whole_sum(n, m, a + m, b - m), whole_sum(n, m, a, b) + n * (n - 1) // 2 - n)


class SumRows(SoonTest):
    def check_rows(self, n, m, a, b):
        rows = sum_rows(n, m, a, b)
        self.assertIs(type(rows), list)
        self.assertTrue(all(type(row) is tuple for row in rows))
        self.assertEqual(rows, rows_by_words(n, m, a, b))
        self.assertEqual(sum(row[4] for row in rows), whole_sum(n, m, a, b))
        self.assertLessEqual(len(rows), len(steps_of(a, m)))

    def test_written_out(self):
        self.assertEqual(sum_rows(10, 7, 3, 2), [(10, 7, 3, 2, 0), (4, 3, 7, 4, 16), (1, 1, 3, 2, 2)])
        self.assertEqual(sum_rows(3, 1, 5, -2), [(3, 1, 5, -2, 9)])
        self.assertEqual(sum_rows(4, 3, -1, 0), [(4, 3, -1, 0, -6), (2, 2, 3, 2, 3), (1, 1, 2, 0, 0)])

    def test_none(self):
        for m in [1, 2, 9] + LONG_NUMBERS:
            for a in NEAR_NOUGHT:
                self.assertEqual(sum_rows(0, m, a, -5), [(0, m, a, -5, 0)])

    def test_small_ones(self):
        for n in (0, 1, 2, 3, 8, 30):
            for m in range(1, 10):
                for a in range(-11, 12):
                    for b in (-10, -1, 0, 1, 4, 11):
                        self.check_rows(n, m, a, b)

    def test_where_y_is_just_m_or_one_less(self):
        self.assertEqual(sum_rows(2, 5, 2, 0), [(2, 5, 2, 0, 0)])
        self.assertEqual(sum_rows(2, 5, 2, 1), [(2, 5, 2, 1, 0), (1, 2, 5, 0, 0)])

    def test_long_ones(self):
        for n, m, a, b in long_fours():
            self.check_rows(n, m, a, b)

    def test_a_told_list_is_the_askers_own(self):
        told = sum_rows(2, 5, 2, 1)
        told.clear()
        self.assertEqual(sum_rows(2, 5, 2, 1), [(2, 5, 2, 1, 0), (1, 2, 5, 0, 0)])


class RefusalsOfCounts(SoonTest):
    ASKS = [parts_of, whole_sum, sum_rows]

    def test_n_below_nought(self):
        for ask in self.ASKS:
            for n in (-1, -2, -200, -GREATEST_LONG):
                for m in (1, 7, GREATEST_LONG):
                    refused_alike(self, NoCount, ask, n, m, 3, 2)

    def test_m_below_one(self):
        for ask in self.ASKS:
            for m in (0, -1, -7, -GREATEST_LONG):
                for n in (0, 1, 200):
                    refused_alike(self, NoCount, ask, n, m, 3, 2)

    def test_both(self):
        for ask in self.ASKS:
            refused_alike(self, NoCount, ask, -1, 0, 3, 2)
            refused_alike(self, NoCount, ask, -GREATEST_LONG, -GREATEST_LONG, 0, 0)

    def test_a_sum_of_any_number_is_told(self):
        for n in (201, 1000, GREATEST_LONG):
            self.assertEqual(whole_sum(n, 1, 0, 1), n)
            self.assertEqual(sum_rows(n, 1, 0, 1), [(n, 1, 0, 1, n)])

    def test_answered_as_before_behind_refusals(self):
        for ask in self.ASKS:
            told = ask(5, 3, 2, 1)
            refused_alike(self, NoCount, ask, -1, 3, 2, 1)
            self.assertEqual(ask(5, 3, 2, 1), told)


class PointsUnder(SoonTest):
    def test_written_out(self):
        for a, m, told in [(5, 7, 3), (7, 5, 3), (-1, 7, -3), (-5, 7, -6), (0, 9, 0), (2, 7, 0), (7, 7, 6), (4, 3, 1)]:
            self.assertEqual(points_under(a, m), told)

    def test_by_one(self):
        for a in NEAR_NOUGHT:
            self.assertEqual(points_under(a, 1), 0)

    def test_small_ones_gone_through(self):
        for m in range(1, 40, 2):
            for a in range(-45, 46):
                gone = sum(floor_by_words(a * k, m) for k in range(1, (m - 1) // 2 + 1))
                self.assertEqual(points_under(a, m), gone, (a, m))

    def test_points_counted(self):
        for m in range(1, 22, 2):
            for a in range(1, 25):
                points = [(x, y) for x in range(1, (m - 1) // 2 + 1) for y in range(1, a * m) if y * m <= a * x]
                self.assertEqual(points_under(a, m), len(points))

    def check_both_ways(self, a, m):
        together = points_under(a, m) + points_under(m, a)
        self.assertEqual(together, (a - 1) * (m - 1) // 4 + (math.gcd(a, m) - 1) // 2)

    def test_both_ways(self):
        for m in range(1, 50, 2):
            for a in range(1, 50, 2):
                self.check_both_ways(a, m)

    def test_both_ways_for_long_ones(self):
        low, high = long_fibonacci_pair()
        for a, m in [(THREES, SEVENS), (GREATEST_LONG, THREES), (3 ** 200 * 5, 3 ** 150 * 7), (SEVENS, SEVENS)]:
            self.assertEqual((a % 2, m % 2), (1, 1))
            self.check_both_ways(a, m)
        for a, m in [(low, high), (high, low)]:
            if m % 2 == 1:
                self.assertEqual(points_under(a, m), whole_sum((m + 1) // 2, m, a, 0))

    def test_long_ones(self):
        for m in (THREES, SEVENS, GREATEST_LONG):
            half = (m - 1) // 2
            self.assertEqual(points_under(m, m), half * (half + 1) // 2)
            self.assertEqual(points_under(-1, m), -half)
            self.assertEqual(points_under(1, m), 0)
            self.assertEqual(points_under(-LEAST_LONG, m), -half - points_under(LEAST_LONG, m)
                             + (math.gcd(LEAST_LONG, m) - 1) // 2)

    def test_even_m(self):
        for m in (2, 4, 200, LEAST_LONG):
            for a in (0, 1, -1, 2, 7, THREES):
                refused_alike(self, NotOdd, points_under, a, m)

    def test_m_below_one_ahead_of_even_m(self):
        for m in (0, -1, -2, -7, -LEAST_LONG, -GREATEST_LONG):
            for a in (0, 1, 2, THREES):
                refused_alike(self, NoCount, points_under, a, m)

    def test_answered_as_before_behind_refusals(self):
        refused_alike(self, NotOdd, points_under, 5, 8)
        refused_alike(self, NoCount, points_under, 5, 0)
        self.assertEqual(points_under(5, 7), 3)


if __name__ == "__main__":
    unittest.main()
