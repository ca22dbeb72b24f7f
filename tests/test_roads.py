import math
import unittest

from helper import GREATEST_LONG, LEAST_LONG, LONG_NUMBERS, SEVENS, THREES
from helper import SoonTest, refused_alike
from sawsign.errors import NoCount, NotApart, NotOdd, TooMany
from sawsign.exchange import exchanged, shuffle_sign
from sawsign.floors import points_under
from sawsign.halves import overs_of
from sawsign.papers import prime_paper
from sawsign.roads import sign_by_halves, sign_by_points, sign_by_rounds
from sawsign.roots import root_by
from sawsign.teeth import sign_by_teeth

ROADS = [sign_by_rounds, sign_by_halves, sign_by_points, sign_by_teeth]
SHORT_ROADS = [sign_by_rounds, sign_by_halves]


def sign_of_count(count):
    return 1 if count % 2 == 0 else -1


class Roads(SoonTest):
    def check_one_sign(self, a, m, roads):
        sign = exchanged(a, m)
        self.assertIn(sign, (1, -1))
        for road in roads:
            told = road(a, m)
            self.assertIs(type(told), int)
            self.assertEqual(told, sign, (road, a, m))

    def test_written_out(self):
        for road in ROADS:
            for a, m, told in [(3, 7, -1), (2, 7, 1), (-1, 7, -1), (2, 15, 1), (2, 9, 1), (2, 3, -1), (1, 9, 1)]:
                self.assertEqual(road(a, m), told)

    def test_by_one(self):
        for road in ROADS:
            for a in [0, 1, -1, 2, 3] + LONG_NUMBERS:
                self.assertEqual(road(a, 1), 1)

    def test_small_ones(self):
        for m in range(1, 62, 2):
            for a in range(-2 * m, 2 * m + 1):
                if math.gcd(a, m) == 1:
                    self.check_one_sign(a, m, ROADS)

    def test_the_greatest_m_for_rounds_and_halves(self):
        for m in (195, 197, 199):
            for a in list(range(-20, 20)) + LONG_NUMBERS:
                if math.gcd(a, m) == 1:
                    self.check_one_sign(a, m, ROADS)

    def test_long_a(self):
        for m in (7, 9, 13, 25, 77):
            for a in LONG_NUMBERS + [-number for number in LONG_NUMBERS]:
                if math.gcd(a, m) == 1:
                    self.check_one_sign(a, m, ROADS)

    def test_long_m_by_points_and_by_teeth(self):
        for m in (201, 1001, GREATEST_LONG, THREES, SEVENS):
            for a in [1, -1, 2, -2, 5, 8, 10 ** 90 + 1, m - 1, m + 1] + LONG_NUMBERS:
                if math.gcd(a, m) == 1:
                    self.check_one_sign(a, m, [sign_by_points, sign_by_teeth])

    def test_one_sign_by_the_whole_promise(self):
        for m in range(1, 60, 2):
            for a in range(-m - 3, m + 4):
                if math.gcd(a, m) == 1:
                    sign = exchanged(a, m)
                    self.assertEqual(shuffle_sign(a, m), sign)
                    self.assertEqual(sign_of_count(overs_of(a, m)), sign)
                    if a % 2 == 1:
                        self.assertEqual(sign_of_count(points_under(a, m)), sign)

    def test_one_sign_for_long_numbers(self):
        for m in (GREATEST_LONG, THREES, SEVENS):
            for a in [2, -2, 5, -LEAST_LONG, SEVENS, -THREES, GREATEST_LONG]:
                if math.gcd(a, m) == 1:
                    sign = exchanged(a, m)
                    self.assertEqual(sign_of_count(overs_of(a, m)), sign)
                    if a % 2 == 1:
                        self.assertEqual(sign_of_count(points_under(a, m)), sign)

    def test_primes_have_a_root_or_none(self):
        for p in (3, 5, 7, 11, 13, 17, 19, 23, 101, 193, 197, 199):
            rows = prime_paper(p)
            for a in range(-p, 2 * p):
                if a % p != 0:
                    kind = root_by(rows, p, a)[0]
                    self.assertEqual(kind, "root" if exchanged(a, p) == 1 else "none")
                    self.check_one_sign(a, p, ROADS)

    def test_m_below_one(self):
        for road in ROADS:
            for a in (0, 1, 2, -3, THREES):
                for m in (0, -1, -2, -3, -201, -202, -LEAST_LONG, -GREATEST_LONG):
                    refused_alike(self, NoCount, road, a, m)

    def test_even_m(self):
        for road in ROADS:
            for a in (0, 1, 2, -3, THREES):
                for m in (2, 4, 198, 200, 202, 400, LEAST_LONG):
                    refused_alike(self, NotOdd, road, a, m)

    def test_m_too_great(self):
        for road in SHORT_ROADS:
            for m in (201, 203, 399, THREES, GREATEST_LONG):
                for a in (0, 1, 2, 3, m, -m, SEVENS):
                    refused_alike(self, TooMany, road, a, m)

    def test_not_apart(self):
        for road in ROADS:
            for a, m in [(0, 3), (0, 199), (3, 9), (-6, 9), (7, 7), (THREES, 15), (-5, 195), (2 * 199, 199)]:
                refused_alike(self, NotApart, road, a, m)
        for a, m in [(0, 201), (3, 201), (0, THREES), (3, THREES), (-SEVENS, 7 ** 100), (9, GREATEST_LONG)]:
            refused_alike(self, NotApart, sign_by_points, a, m)
            refused_alike(self, NotApart, sign_by_teeth, a, m)

    def test_answered_as_before_behind_refusals(self):
        for road in ROADS:
            for error, a, m in [(NoCount, 3, 0), (NotOdd, 3, 8), (NotApart, 7, 7)]:
                refused_alike(self, error, road, a, m)
                self.assertEqual(road(3, 7), -1)
        for road in SHORT_ROADS:
            refused_alike(self, TooMany, road, 2, 201)
            self.assertEqual(road(3, 7), -1)


if __name__ == "__main__":
    unittest.main()
