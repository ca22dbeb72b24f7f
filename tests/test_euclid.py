import math
import unittest
from fractions import Fraction

from helper import GREATEST_LONG, LEAST_LONG, LONG_NUMBERS, THREES
from helper import SoonTest, long_fibonacci_pair, refused_alike
from sawsign.errors import NoCount
from sawsign.euclid import folded, steps_of


def folded_by_words(parts):
    """Point 9 word for word, with Python's own fractions."""
    value = Fraction(parts[-1])
    for part in reversed(parts[:-1]):
        value = part + 1 / value
    return (value.numerator, value.denominator)


class StepsOf(SoonTest):
    def check_steps(self, a, m):
        steps = steps_of(a, m)
        self.assertIs(type(steps), list)
        divided, by = a, m
        for part, rest in steps:
            self.assertNotEqual(by, 0)
            self.assertEqual(part * by + rest, divided)
            self.assertTrue(0 <= rest < by)
            divided, by = by, rest
        self.assertEqual(by, 0)
        self.assertTrue(all(type(step) is tuple for step in steps))
        self.assertGreaterEqual(len(steps), 1)
        self.assertLessEqual(len(steps), 5 * len(str(m)) + 2)

    def test_written_examples(self):
        self.assertEqual(steps_of(7, 5), [(1, 2), (2, 1), (2, 0)])
        self.assertEqual(steps_of(-1, 3), [(-1, 2), (1, 1), (2, 0)])
        for m in [1, 2, 9, 100] + LONG_NUMBERS:
            self.assertEqual(steps_of(0, m), [(0, 0)])

    def test_one_step(self):
        self.assertEqual(steps_of(12, 4), [(3, 0)])
        self.assertEqual(steps_of(-12, 4), [(-3, 0)])
        for a in [-7, -1, 1, 7, GREATEST_LONG, -GREATEST_LONG]:
            self.assertEqual(steps_of(a, 1), [(a, 0)])

    def test_a_below_m(self):
        self.assertEqual(steps_of(5, 7), [(0, 5), (1, 2), (2, 1), (2, 0)])

    def test_small_ones(self):
        for m in range(1, 30):
            for a in range(-60, 61):
                self.check_steps(a, m)

    def test_long_ones(self):
        for m in [1, 2, 7, 10 ** 40 + 1] + LONG_NUMBERS:
            for a in [3, 10 ** 50 + 3] + LONG_NUMBERS:
                self.check_steps(a, m)
                self.check_steps(-a, m)

    def test_as_many_steps_as_may_be(self):
        low, high = long_fibonacci_pair()
        for a, m in [(low, high), (high, low), (-low, high), (-high, low)]:
            self.check_steps(a, m)

    def test_a_told_list_is_the_askers_own(self):
        told = steps_of(7, 5)
        told.append((9, 9))
        told[0] = (0, 0)
        self.assertEqual(steps_of(7, 5), [(1, 2), (2, 1), (2, 0)])
        steps_of(0, 5).clear()
        self.assertEqual(steps_of(0, 5), [(0, 0)])

    def test_m_below_one(self):
        for a in [0, 1, -1, 7, THREES]:
            for m in [0, -1, -5, -GREATEST_LONG]:
                refused_alike(self, NoCount, steps_of, a, m)
        self.assertEqual(steps_of(7, 5), [(1, 2), (2, 1), (2, 0)])


class Folded(SoonTest):
    def check_folded(self, parts):
        handed = list(parts)
        told = folded(handed)
        self.assertEqual(handed, parts)
        self.assertIs(type(told), tuple)
        self.assertEqual(len(told), 2)
        self.assertGreaterEqual(told[1], 1)
        self.assertEqual(math.gcd(told[0], told[1]), 1)
        self.assertEqual(told, folded_by_words(parts))

    def test_written_out(self):
        self.assertEqual(folded([1, 2, 2]), (7, 5))
        self.assertEqual(folded([-1, 1, 2]), (-1, 3))
        self.assertEqual(folded([0, 3]), (1, 3))
        self.assertEqual(folded([0, 1]), (1, 1))
        self.assertEqual(folded([-1, 1]), (0, 1))
        self.assertEqual(folded([3, 7, 15, 1]), (355, 113))

    def test_one_part(self):
        for part in [0, 1, -1, 5, -5, GREATEST_LONG, -GREATEST_LONG]:
            self.assertEqual(folded([part]), (part, 1))

    def test_short_lists(self):
        for first in range(-4, 5):
            for second in range(1, 5):
                self.check_folded([first, second])
                for third in range(1, 5):
                    self.check_folded([first, second, third])
                    self.check_folded([first, second, third, 1])

    def test_long_lists_and_parts(self):
        for first in [0, 1, -1, -9, THREES, -GREATEST_LONG]:
            self.check_folded([first] + [1] * 399)
            self.check_folded([first] + list(range(1, 400)))
            self.check_folded([first] + LONG_NUMBERS)
        self.check_folded([-LEAST_LONG] + [GREATEST_LONG] * 399)

    def test_parts_of_steps_fold_back(self):
        low, high = long_fibonacci_pair()
        pairs = [(a, m) for m in range(1, 20) for a in range(-40, 41)]
        pairs += [(a, m) for a in LONG_NUMBERS for m in LONG_NUMBERS]
        pairs += [(-a, m) for a in LONG_NUMBERS for m in LONG_NUMBERS]
        pairs += [(low, high), (-low, high), (high, low), (-high, low)]
        for a, m in pairs:
            g = math.gcd(a, m)
            told = folded([part for part, rest in steps_of(a, m)])
            self.assertEqual(told, (a // g, m // g))

    def test_a_list_changed_behind_the_call(self):
        handed = [1, 2, 2]
        told = folded(handed)
        handed.append(9)
        handed[0] = 5
        self.assertEqual(told, (7, 5))
        self.assertEqual(folded([1, 2, 2]), (7, 5))

    def test_no_parts(self):
        refused_alike(self, NoCount, folded, [])

    def test_a_part_below_one_at_each_place(self):
        for length in (2, 3, 6, 400):
            for place in range(1, length):
                for bad in (0, -1, -GREATEST_LONG):
                    parts = [-3] + [2] * (length - 1)
                    parts[place] = bad
                    kept = list(parts)
                    refused_alike(self, NoCount, folded, parts)
                    self.assertEqual(parts, kept)

    def test_answered_as_before_behind_refusals(self):
        refused_alike(self, NoCount, folded, [1, 0, 2])
        refused_alike(self, NoCount, folded, [])
        self.assertEqual(folded([1, 2, 2]), (7, 5))


if __name__ == "__main__":
    unittest.main()
