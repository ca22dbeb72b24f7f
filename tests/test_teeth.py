import itertools
import math
import unittest
from fractions import Fraction

from helper import GREATEST_LONG, LEAST_LONG, LONG_NUMBERS, SEVENS, THREES
from helper import SoonTest, long_fibonacci_pair, pair_by_words, pair_of, refused_alike, tooth_by_words
from sawsign.errors import NoCount, NotApart, NotOdd, TooMany
from sawsign.exchange import exchanged
from sawsign.fractions import fraction, plus, times
from sawsign.teeth import pair_sum, pair_through, sign_by_teeth, teeth_of, three_way, tooth, tooth_sum, twelve
from sawsign.wholes import turned

NOUGHT = (0, 1)
SIGNED_LONG = LONG_NUMBERS + [-number for number in LONG_NUMBERS]
BELOW_ONE = [0, -1, -2, -3, -200, -201, -LEAST_LONG, -GREATEST_LONG]
LONG_APART = [
    (THREES, SEVENS), (SEVENS, THREES), (LEAST_LONG, GREATEST_LONG), (GREATEST_LONG, LEAST_LONG),
    (GREATEST_LONG - 1, GREATEST_LONG), (1, GREATEST_LONG), (2, THREES), long_fibonacci_pair(),
    long_fibonacci_pair()[::-1],
]


def worth(told):
    return Fraction(told[0], told[1])


class Tooth(SoonTest):
    def check_tooth(self, x):
        told = tooth(pair_of(x))
        self.assertIs(type(told), tuple)
        self.assertEqual(told, pair_of(tooth_by_words(x)), x)
        self.assertTrue(Fraction(-1, 2) < worth(told) < Fraction(1, 2))

    def test_written_out(self):
        for x, told in [
            ((0, 1), NOUGHT), ((5, 1), NOUGHT), ((-5, 1), NOUGHT), ((1, 2), NOUGHT), ((-1, 2), NOUGHT),
            ((7, 2), NOUGHT), ((1, 3), (-1, 6)), ((2, 3), (1, 6)), ((-1, 3), (1, 6)), ((-2, 3), (-1, 6)),
            ((1, 4), (-1, 4)), ((3, 4), (1, 4)), ((-7, 4), (-1, 4)), ((1, 6), (-1, 3)), ((17, 6), (1, 3)),
        ]:
            self.assertEqual(tooth(x), told)

    def test_small_ones(self):
        for bottom in range(1, 31):
            for top in range(-70, 71):
                self.check_tooth(Fraction(top, bottom))

    def test_parts_of_four_hundred_figures(self):
        numbers = [10 ** 399, 10 ** 400 - 1, 3 ** 836, 7 ** 472, 2, 1]
        for top, bottom in itertools.product(numbers, repeat=2):
            self.check_tooth(Fraction(top, bottom))
            self.check_tooth(Fraction(-top, bottom))

    def test_teeth_of_a_round_add_up(self):
        for m in (1, 2, 3, 5, 12, 30):
            for x in [Fraction(top, bottom) for bottom in (1, 2, 5, 6, 12) for top in range(-13, 14)]:
                total = NOUGHT
                for k in range(m):
                    total = plus(total, tooth(pair_of(x + Fraction(k, m))))
                self.assertEqual(total, tooth(pair_of(m * x)), (x, m))


class TeethOf(SoonTest):
    def test_written_out(self):
        self.assertEqual(teeth_of(1, 1), [NOUGHT])
        self.assertEqual(teeth_of(1, 2), [NOUGHT, NOUGHT])
        self.assertEqual(teeth_of(1, 3), [NOUGHT, (-1, 6), (1, 6)])
        self.assertEqual(teeth_of(-1, 3), [NOUGHT, (1, 6), (-1, 6)])
        self.assertEqual(teeth_of(2, 4), [NOUGHT, NOUGHT, NOUGHT, NOUGHT])
        self.assertEqual(teeth_of(3, 5), [NOUGHT, (1, 10), (-3, 10), (3, 10), (-1, 10)])

    def test_each_m(self):
        for m in list(range(1, 25)) + [199, 200]:
            for a in [-13, -4, -1, 0, 1, 2, 3, 6, 10, 25, m, THREES, -LEAST_LONG]:
                told = teeth_of(a, m)
                self.assertIs(type(told), list)
                self.assertEqual(told, [pair_of(tooth_by_words(Fraction(a * k, m))) for k in range(m)])

    def test_a_told_list_is_the_askers_own(self):
        told = teeth_of(1, 3)
        told.append((1, 2))
        told[0] = None
        self.assertEqual(teeth_of(1, 3), [NOUGHT, (-1, 6), (1, 6)])

    def test_refusals(self):
        for a in (0, 1, -3, THREES):
            for m in BELOW_ONE:
                refused_alike(self, NoCount, teeth_of, a, m)
            for m in [201, 202, 400] + LONG_NUMBERS:
                refused_alike(self, TooMany, teeth_of, a, m)
        self.assertEqual(teeth_of(1, 3), [NOUGHT, (-1, 6), (1, 6)])


class PairSums(SoonTest):
    def test_written_out(self):
        for a, b, m, told in [
            (1, 1, 3, (1, 18)), (1, 2, 3, (-1, 18)), (1, 1, 2, NOUGHT), (1, 1, 5, (1, 5)), (1, 2, 5, NOUGHT),
            (2, 2, 6, (1, 9)), (0, 1, 7, NOUGHT), (3, 1, 9, (1, 18)),
        ]:
            self.assertEqual(pair_through(a, b, m), told)
            self.assertEqual(pair_sum(a, b, m), told)

    def test_by_one(self):
        for a, b in itertools.product([0, 1, -1, 5] + SIGNED_LONG, repeat=2):
            self.assertEqual(pair_through(a, b, 1), NOUGHT)
            self.assertEqual(pair_sum(a, b, 1), NOUGHT)

    def test_by_two(self):
        for a, b in itertools.product([0, 1, 2, -1, -2] + SIGNED_LONG, repeat=2):
            self.assertEqual(pair_through(a, b, 2), NOUGHT)
            self.assertEqual(pair_sum(a, b, 2), NOUGHT)

    def check_pair(self, a, b, m):
        gone = pair_of(pair_by_words(a, b, m))
        for ask in (pair_through, pair_sum):
            told = ask(a, b, m)
            self.assertIs(type(told), tuple)
            self.assertEqual(told, gone, (ask, a, b, m))

    def test_small_ones_of_either_sign(self):
        for m in range(1, 14):
            for a, b in itertools.product(range(-m - 1, m + 2), repeat=2):
                self.check_pair(a, b, m)

    def test_pair_sum_gone_through_to_forty(self):
        for m in range(1, 41):
            for a, b in itertools.product(range(m), repeat=2):
                if a <= b or (a + 2 * b) % 5 == 0:
                    self.assertEqual(pair_sum(a, b, m), pair_of(pair_by_words(a, b, m)), (a, b, m))

    def test_shared_numbers(self):
        # Each alone, both with the same number, both with unlike ones, one within the other, and all of m.
        for a, b, m in [(6, 5, 36), (5, 6, 36), (6, 6, 36), (4, 9, 36), (-4, 9, 36), (12, 6, 36), (36, 6, 36),
                        (0, 6, 36), (0, 0, 36), (18, 12, 36), (-30, 20, 60), (8, 12, 144), (16, 9, 144), (14, 91, 182)]:
            self.check_pair(a, b, m)

    def test_the_greatest_m_that_is_gone_through(self):
        for a, b in [(1, 1), (3, 7), (-3, 7), (8, 25), (10, 4), (40, 100), (0, 3), (THREES, -SEVENS), (LEAST_LONG, 13)]:
            for m in (199, 200):
                self.check_pair(a, b, m)

    def test_greater_ones_gone_through(self):
        for a, b, m in [(1, 7, 201), (15, 35, 1050), (-77, 6, 462), (100, 999, 1000), (0, 5, 300), (210, 30, 630)]:
            self.assertEqual(pair_sum(a, b, m), pair_of(pair_by_words(a, b, m)))

    def test_long_a_and_b(self):
        for m in (3, 12, 77, 200):
            for a, b in itertools.product(SIGNED_LONG[::3], repeat=2):
                self.check_pair(a, b, m)

    def test_long_m(self):
        for m in LONG_NUMBERS:
            # The teeth of k / m, squared and added up.
            self.assertEqual(pair_sum(1, 1, m), fraction((m - 1) * (m - 2), 12 * m))
            self.assertEqual(pair_sum(-1, 1, m), fraction(-(m - 1) * (m - 2), 12 * m))
            self.assertEqual(pair_sum(0, SEVENS, m), NOUGHT)
            self.assertEqual(pair_sum(m, THREES, m), NOUGHT)
            self.assertEqual(pair_sum(0, 0, m), NOUGHT)
            for a in (2, 11, -13, SEVENS, THREES, LEAST_LONG):
                g = math.gcd(a, m)
                self.assertEqual(pair_sum(a, a, m), times((g, 1), pair_sum(1, 1, m // g)))

    def test_long_m_that_shares_numbers(self):
        for a, b, m in [(11, 13, 17), (11, -13, 1700), (7 ** 50, 5 ** 50, 13 ** 60), (2, 3, 5)]:
            told = pair_sum(a, b, m)
            for g in (10 ** 20, 3 ** 100):
                self.assertEqual(pair_sum(a * g, b * g, m * g), times((g, 1), told))
            # Numbers shared with one of the two alone drop out.
            for one, other in [(19 ** 30, 23 ** 20), (1, 19 ** 45), (23 ** 45, 1)]:
                self.assertEqual(pair_sum(a * one, b * other, m * one * other), told)
                self.assertEqual(pair_sum(a * one, b, m * one), told)
                self.assertEqual(pair_sum(a, b * other, m * other), told)

    def test_both_may_be_exchanged_and_multiplied(self):
        for a, m in LONG_APART:
            for b in (1, 5, -7, THREES, SEVENS):
                told = pair_sum(a, b, m)
                self.assertEqual(pair_sum(b, a, m), told)
                self.assertEqual(pair_sum(-a, -b, m), told)
                self.assertEqual(pair_sum(a, -b, m), times((-1, 1), told))
                self.assertEqual(pair_sum(a + m, b - 2 * m, m), told)
                self.assertEqual(pair_sum(a * a, a * b, m), told)

    def test_long_ones_exchanged(self):
        for a, b, c in [(THREES, SEVENS, LEAST_LONG), (3 ** 200, 2 ** 400, 5 ** 150), (1, THREES, SEVENS)]:
            self.assertEqual(math.gcd(a, b) * math.gcd(b, c) * math.gcd(c, a), 1)
            total = plus(pair_sum(b, c, a), plus(pair_sum(c, a, b), pair_sum(a, b, c)))
            self.assertEqual(worth(total), Fraction(a * a + b * b + c * c, 12 * a * b * c) - Fraction(1, 4))

    def test_m_below_one(self):
        for ask in (pair_through, pair_sum):
            for a, b in [(0, 0), (1, 1), (-3, 6), (THREES, SEVENS)]:
                for m in BELOW_ONE:
                    refused_alike(self, NoCount, ask, a, b, m)

    def test_too_many_to_go_through(self):
        for m in [201, 202, 400] + LONG_NUMBERS:
            for a, b in [(0, 0), (1, 1), (-3, 6), (THREES, SEVENS)]:
                refused_alike(self, TooMany, pair_through, a, b, m)
                pair_sum(a, b, m)

    def test_answered_as_before_behind_refusals(self):
        refused_alike(self, TooMany, pair_through, 1, 1, 201)
        for ask in (pair_through, pair_sum):
            refused_alike(self, NoCount, ask, 1, 1, 0)
            self.assertEqual(ask(1, 1, 3), (1, 18))


class ToothSums(SoonTest):
    def test_written_out(self):
        for a, m, told, twelfth in [
            (1, 1, NOUGHT, 0), (0, 1, NOUGHT, 0), (1, 2, NOUGHT, 0), (1, 3, (1, 18), 2), (2, 3, (-1, 18), -2),
            (1, 4, (1, 8), 6), (2, 5, NOUGHT, 0), (1, 5, (1, 5), 12), (2, 6, (1, 18), 4), (0, 6, NOUGHT, 0),
        ]:
            self.assertEqual(tooth_sum(a, m), told)
            self.assertEqual(twelve(a, m), twelfth)

    def check_sum(self, a, m, gone):
        told = tooth_sum(a, m)
        self.assertIs(type(told), tuple)
        self.assertEqual(told, pair_of(gone), (a, m))
        twelfth = twelve(a, m)
        self.assertIs(type(twelfth), int)
        self.assertEqual(twelfth, 12 * m * gone, (a, m))
        self.assertEqual(twelfth % 2, 0)

    def test_gone_through(self):
        for m in range(1, 41):
            for a in range(-m - 2, 2 * m + 3):
                self.check_sum(a, m, pair_by_words(1, a, m))
        for a, m in [(7, 199), (-50, 200), (THREES, 200), (SEVENS, 196), (99, 1001), (-12, 1002)]:
            self.check_sum(a, m, pair_by_words(1, a, m))

    def test_both_by_the_pair_sum(self):
        for a, m in LONG_APART + [(6 * SEVENS, 9 * SEVENS), (LEAST_LONG, 10 ** 120), (0, THREES), (THREES, THREES)]:
            self.check_sum(a, m, worth(pair_sum(1, a, m)))
            self.check_sum(-a, m, worth(pair_sum(a, -1, m)))

    def test_the_twelve_is_even_for_long_ones(self):
        for m in LONG_NUMBERS + [4, 30, 210]:
            for a in SIGNED_LONG + [0, 1, 2, 10, 15]:
                self.assertEqual(twelve(a, m) % 2, 0)

    def test_both_taken_g_times(self):
        for a, m in [(1, 3), (5, 12), (-7, 30), (4, 6), (0, 5), (7 ** 40, 3 ** 60), (-2 ** 100, 5 ** 40)]:
            for g in (1, 2, 3, 12, 10 ** 40, 3 ** 100):
                self.assertEqual(tooth_sum(g * a, g * m), tooth_sum(a, m))
                self.assertEqual(twelve(g * a, g * m), g * twelve(a, m))

    def test_the_other_sign(self):
        pairs = [(a, m) for m in range(1, 30) for a in range(m)] + LONG_APART + [(3 * THREES, THREES)]
        for a, m in pairs:
            self.assertEqual(twelve(-a, m), -twelve(a, m))
            self.assertEqual(tooth_sum(-a, m), times((-1, 1), tooth_sum(a, m)))

    def test_turned_over(self):
        pairs = [(a, m) for m in range(1, 40) for a in range(m) if math.gcd(a, m) == 1] + LONG_APART
        for a, m in pairs:
            self.assertEqual(tooth_sum(turned(a, m), m), tooth_sum(a, m))
            self.assertEqual(twelve(turned(a, m), m), twelve(a, m))

    def test_two_exchanged(self):
        pairs = [(a, m) for m in range(1, 30) for a in range(1, 60) if math.gcd(a, m) == 1] + LONG_APART
        for a, m in pairs:
            total = plus(tooth_sum(a, m), tooth_sum(m, a))
            self.assertEqual(worth(total), Fraction(a * a + m * m + 1, 12 * a * m) - Fraction(1, 4), (a, m))

    def test_rests_and_noughts(self):
        pairs = [(a, m) for m in range(1, 60) for a in range(-m, m + 1) if math.gcd(a, m) == 1] + LONG_APART
        for a, m in pairs:
            told = twelve(a, m)
            self.assertEqual(told % m, (a + turned(a, m)) % m)
            self.assertEqual(told % 3, 0 if m % 3 != 0 else 2 * a % 3)
            self.assertEqual(tooth_sum(a, m) == NOUGHT, (a * a + 1) % m == 0)

    def test_long_ones_that_are_nought(self):
        for a in (10 ** 64, 3 ** 130, 7 ** 76):
            self.assertEqual(tooth_sum(a, a * a + 1), NOUGHT)
            self.assertEqual(twelve(-a, a * a + 1), 0)
            self.assertNotEqual(twelve(a + 1, a * a + 1), 0)

    def test_m_below_one(self):
        for ask in (tooth_sum, twelve):
            for a in (0, 1, -3, THREES):
                for m in BELOW_ONE:
                    refused_alike(self, NoCount, ask, a, m)
        self.assertEqual(tooth_sum(1, 3), (1, 18))
        self.assertEqual(twelve(1, 3), 2)


class ThreeWay(SoonTest):
    def check_three(self, a, b, c):
        told = three_way(a, b, c)
        self.assertIs(type(told), tuple)
        self.assertEqual(told, (pair_sum(b, c, a), pair_sum(c, a, b), pair_sum(a, b, c)))
        total = sum(worth(one) for one in told)
        self.assertEqual(total, Fraction(a * a + b * b + c * c, 12 * a * b * c) - Fraction(1, 4))

    def test_written_out(self):
        self.assertEqual(three_way(1, 1, 1), (NOUGHT, NOUGHT, NOUGHT))
        self.assertEqual(three_way(3, 1, 1), ((1, 18), NOUGHT, NOUGHT))
        self.assertEqual(three_way(1, 3, 1), (NOUGHT, (1, 18), NOUGHT))
        self.assertEqual(three_way(1, 1, 3), (NOUGHT, NOUGHT, (1, 18)))
        self.assertEqual(three_way(3, 4, 5), ((-1, 18), (-1, 8), NOUGHT))

    def test_in_their_order(self):
        for a, b, c in itertools.product(range(1, 14), repeat=3):
            if math.gcd(a, b) == math.gcd(b, c) == math.gcd(c, a) == 1:
                self.check_three(a, b, c)
                self.assertEqual(three_way(a, b, c), (
                    pair_of(pair_by_words(b, c, a)), pair_of(pair_by_words(c, a, b)), pair_of(pair_by_words(a, b, c))))

    def test_long_ones(self):
        for three in [(THREES, SEVENS, LEAST_LONG), (1, THREES, SEVENS), (1, 1, GREATEST_LONG), (2, THREES, 5)]:
            for a, b, c in itertools.permutations(three):
                self.check_three(a, b, c)

    def test_below_one(self):
        for low in BELOW_ONE:
            for a, b, c in [(1, 1, 1), (2, 3, 5), (2, 4, 6), (THREES, THREES, THREES)]:
                for three in [(low, b, c), (a, low, c), (a, b, low), (low, low, c), (low, low, low)]:
                    refused_alike(self, NoCount, three_way, *three)

    def test_each_two_that_are_not_apart(self):
        for three in [(2, 4, 5), (5, 2, 4), (4, 5, 2), (6, 10, 15), (7, 7, 1), (7, 1, 7), (1, 7, 7), (3, THREES, 2),
                      (2, 3, THREES), (THREES, 2, 3), (LEAST_LONG, 7, 5)]:
            refused_alike(self, NotApart, three_way, *three)

    def test_answered_as_before_behind_refusals(self):
        refused_alike(self, NoCount, three_way, 3, 0, 1)
        refused_alike(self, NotApart, three_way, 3, 3, 1)
        self.assertEqual(three_way(3, 1, 1), ((1, 18), NOUGHT, NOUGHT))


class SignByTeeth(SoonTest):
    def check_sign(self, a, m):
        told = sign_by_teeth(a, m)
        self.assertIs(type(told), int)
        self.assertEqual(told, exchanged(a, m), (a, m))
        self.assertEqual((twelve(a, m) - m - 1) % 8, 6 if told == 1 else 2)

    def test_written_out(self):
        for a, m, told in [(3, 7, -1), (2, 7, 1), (-1, 7, -1), (2, 15, 1), (2, 9, 1), (2, 3, -1), (1, 9, 1)]:
            self.assertEqual(sign_by_teeth(a, m), told)

    def test_by_one(self):
        for a in [0, 1, -1, 2, 3] + SIGNED_LONG:
            self.assertEqual(sign_by_teeth(a, 1), 1)

    def test_small_ones(self):
        for m in range(1, 80, 2):
            for a in range(-m - 5, 2 * m):
                if math.gcd(a, m) == 1:
                    self.check_sign(a, m)

    def test_long_ones(self):
        for m in (201, 1001, GREATEST_LONG, THREES, SEVENS):
            for a in [1, -1, 2, -2, 5, 8, 10 ** 90 + 1, m - 1, m + 1] + SIGNED_LONG:
                if math.gcd(a, m) == 1:
                    self.check_sign(a, m)

    def test_refusals_by_their_order(self):
        for a in (0, 1, 2, -3, THREES):
            for m in BELOW_ONE:
                refused_alike(self, NoCount, sign_by_teeth, a, m)
            for m in (2, 4, 6, 200, 202, 3 * LEAST_LONG // 10, LEAST_LONG):
                refused_alike(self, NotOdd, sign_by_teeth, a, m)
        for a, m in [(0, 3), (0, 201), (3, 9), (-6, 9), (7, 7), (THREES, 15), (3, THREES), (9, GREATEST_LONG)]:
            refused_alike(self, NotApart, sign_by_teeth, a, m)
        self.assertEqual(sign_by_teeth(3, 7), -1)


if __name__ == "__main__":
    unittest.main()
