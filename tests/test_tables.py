import itertools
import unittest
from fractions import Fraction

from helper import GREATEST_LONG, LEAST_LONG, NO_TABLES, SEVENS, THREES
from helper import SoonTest, long_tables, pair_by_words, refused_alike, small_tables, table_above
from sawsign.errors import NoTable
from sawsign.tables import back_of, is_table, number_of, steady_of, together

OWN = ((1, 0), (0, 1))
U = ((1, 1), (0, 1))
V = ((1, 0), (1, 1))
SMALL = small_tables(3)
FEW = small_tables(2) + [((5, 2), (7, 3)), ((-5, 2), (7, -3)), ((5, -2), (-7, 3)), ((13, 5), (18, 7)), ((1, 9), (0, 1))]
LONG = long_tables()


def sign(number):
    return (number > 0) - (number < 0)


def turned_round(table):
    """The table with all places of the other sign."""
    return tuple(tuple(-number for number in row) for row in table)


def number_by_words(table):
    (a, b), (c, d) = table
    if c == 0:
        return b * d
    told = Fraction(a + d) / c - 12 * abs(c) * pair_by_words(1, d, abs(c)) / c
    assert told.denominator == 1
    return told.numerator


def steady_by_words(table):
    (a, b), (c, d) = table
    return number_by_words(table) - 3 * sign(c * (a + d))


class IsTable(SoonTest):
    def test_all_small_ones_gone_through(self):
        for a, b, c, d in itertools.product(range(-3, 4), repeat=4):
            self.assertIs(is_table(((a, b), (c, d))), a * d - b * c == 1)

    def test_long_ones(self):
        for table in LONG:
            (a, b), (c, d) = table
            self.assertIs(is_table(table), True)
            self.assertIs(is_table(((a, b), (c, -d))), False)
            self.assertIs(is_table(((a, b), (c, d + 1))), False)
            self.assertIs(is_table(((b, a), (d, c))), False)
            self.assertIs(is_table([(a, b), (c, d)]), False)

    def test_what_is_none(self):
        for thing in NO_TABLES:
            with self.subTest(thing=repr(thing)[:80]):
                self.assertIs(is_table(thing), False)

    def test_truths_stand_for_no_numbers(self):
        for table in [((True, 0), (0, 1)), ((1, False), (0, 1)), ((1, 0), (False, 1)), ((1, 0), (0, True)),
                      ((True, False), (False, True)), (True, False)]:
            self.assertIs(is_table(table), False)

    def test_nothing_handed_in_is_changed(self):
        inner = [1, 0]
        self.assertIs(is_table((inner, (0, 1))), False)
        self.assertEqual(inner, [1, 0])


class Together(SoonTest):
    def check_together(self, one, other):
        (a, b), (c, d) = one
        (e, f), (g, h) = other
        told = together(one, other)
        self.assertEqual(told, ((a * e + b * g, a * f + b * h), (c * e + d * g, c * f + d * h)))
        self.assertIs(is_table(told), True)

    def test_written_out(self):
        self.assertEqual(together(U, V), ((2, 1), (1, 1)))
        self.assertEqual(together(V, U), ((1, 1), (1, 2)))
        self.assertEqual(together(((0, -1), (1, 0)), ((0, -1), (1, 0))), ((-1, 0), (0, -1)))

    def test_small_ones(self):
        for one, other in itertools.product(FEW, repeat=2):
            self.check_together(one, other)

    def test_long_ones(self):
        for one, other in itertools.product(LONG, repeat=2):
            self.check_together(one, other)

    def test_the_own_table(self):
        for table in SMALL + LONG:
            self.assertEqual(together(table, OWN), table)
            self.assertEqual(together(OWN, table), table)

    def test_no_table_at_either_place_and_at_both(self):
        for thing in NO_TABLES:
            refused_alike(self, NoTable, together, thing, U)
            refused_alike(self, NoTable, together, U, thing)
            refused_alike(self, NoTable, together, thing, thing)
            refused_alike(self, NoTable, together, thing, None)


class BackOf(SoonTest):
    def test_written_out(self):
        self.assertEqual(back_of(OWN), OWN)
        self.assertEqual(back_of(U), ((1, -1), (0, 1)))
        self.assertEqual(back_of(((5, 2), (7, 3))), ((3, -2), (-7, 5)))

    def test_together_they_are_the_own_table(self):
        for table in SMALL + LONG:
            told = back_of(table)
            self.assertEqual(together(table, told), OWN)
            self.assertEqual(together(told, table), OWN)
            self.assertEqual(back_of(told), table)


class Numbers(SoonTest):
    def test_written_examples(self):
        self.assertEqual(number_of(((1, 0), (1, 1))), 2)
        self.assertEqual(number_of(((1, 0), (-1, 1))), -2)

    def test_c_is_nought(self):
        for b in (0, 1, -1, 7, -12, GREATEST_LONG, -THREES):
            self.assertEqual(number_of(((1, b), (0, 1))), b)
            self.assertEqual(number_of(((-1, b), (0, -1))), -b)
            self.assertEqual(steady_of(((1, b), (0, 1))), b)
            self.assertEqual(steady_of(((-1, b), (0, -1))), -b)

    def test_steady_written_out(self):
        others = [(((1, 0), (-1, 1)), 1), (((2, 1), (1, 1)), 0), (((0, -1), (1, 0)), 0)]
        for table, told in [(OWN, 0), (U, 1), (V, -1)] + others:
            self.assertEqual(steady_of(table), told)

    def test_small_ones_by_words(self):
        rows = itertools.product((7, -12, 30), (1, -11, 13, 29, 41), (0, -2, 3))
        for table in SMALL + [table_above(c, d, times) for c, d, times in rows]:
            number = number_of(table)
            self.assertIs(type(number), int)
            self.assertEqual(number, number_by_words(table), table)
            steady = steady_of(table)
            self.assertIs(type(steady), int)
            self.assertEqual(steady, steady_by_words(table), table)

    def check_sum(self, one, other):
        """How the numbers of two tables add up; tells the sign that goes in."""
        both = together(one, other)
        told = sign(one[1][0] * other[1][0] * both[1][0])
        self.assertEqual(number_of(both), number_of(one) + number_of(other) - 3 * told, (one, other))
        return told

    def test_how_numbers_add_up(self):
        signs = [self.check_sum(one, other) for one, other in itertools.product(FEW, repeat=2)]
        self.assertEqual(set(signs), {1, 0, -1})

    def test_how_long_numbers_add_up(self):
        signs = [self.check_sum(one, other) for one, other in itertools.product(LONG, repeat=2)]
        self.assertEqual(set(signs), {1, 0, -1})

    def test_the_back_table_and_the_other_sign(self):
        for table in SMALL + LONG:
            self.assertEqual(number_of(back_of(table)), -number_of(table))
            self.assertEqual(number_of(turned_round(table)), number_of(table))
            self.assertEqual(steady_of(back_of(table)), -steady_of(table))
            self.assertEqual(steady_of(turned_round(table)), steady_of(table))

    def check_steady(self, a, b):
        self.assertEqual(steady_of(together(together(b, a), back_of(b))), steady_of(a), (a, b))

    def test_the_steady_number_stays(self):
        for a, b in itertools.product(FEW, repeat=2):
            self.check_steady(a, b)

    def test_the_steady_number_stays_for_long_tables(self):
        for a, b in itertools.product(LONG + [OWN, U, V, ((0, -1), (1, 0))], repeat=2):
            self.check_steady(a, b)

    def test_long_ones(self):
        for c in (GREATEST_LONG, LEAST_LONG, THREES):
            self.assertEqual(number_of(((1, 0), (c, 1))), 3 - c)
            self.assertEqual(number_of(((1, 0), (-c, 1))), c - 3)
            self.assertEqual(steady_of(((1, 0), (c, 1))), -c)
        self.assertEqual(number_of(((SEVENS, -1), (1, 0))), SEVENS)
        self.assertEqual(steady_of(((SEVENS, -1), (1, 0))), SEVENS - 3)


class Refusals(SoonTest):
    ASKS = [back_of, number_of, steady_of]

    def test_no_table_of_any_kind(self):
        for ask in self.ASKS:
            for thing in NO_TABLES:
                refused_alike(self, NoTable, ask, thing)

    def test_answered_as_before_behind_refusals(self):
        for ask in self.ASKS:
            told = ask(((5, 2), (7, 3)))
            refused_alike(self, NoTable, ask, ((5, 2), (7, 4)))
            self.assertEqual(ask(((5, 2), (7, 3))), told)
        refused_alike(self, NoTable, together, U, ((5, 2), (7, 4)))
        self.assertEqual(together(U, V), ((2, 1), (1, 1)))


if __name__ == "__main__":
    unittest.main()
