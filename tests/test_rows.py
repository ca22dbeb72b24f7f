import itertools
import unittest

from helper import GREATEST_LONG, LEAST_LONG, NO_WHOLES, SEVENS, THREES, SoonTest, refused_alike
from sawsign.errors import NoCount, NoRow, NotOdd, TooMany
from sawsign.exchange import exchanged
from sawsign.rows import multiplied, sign_row, verdict_of

SHORT = [row for length in range(1, 6) for row in itertools.product((-1, 0, 1), repeat=length)]
SIXTY = [(1,) * 60, (0,) * 60, (0, 1) * 30, (0, 1, -1) * 20, (0,) + (1,) * 59, (1, -1) * 30, (-1,) + (0,) * 59]
TOO_LONG = [(1,) * 61, (0, 1, -1) * 21, (0,) * 400, (-1,) * 62]
NO_ROWS = [
    (), [], [1], [0, 1], [1] * 61, (2,), (-2,), (1, 2), (0, -2, 1), (GREATEST_LONG,), (-LEAST_LONG, 1), (True,),
    (False,), (1, True), (0, False, 1), (None,), (1, None), ("1",), ("",), ((1,),), ([1],), ((),), (1, (0,)), "1",
    "", "01", None, True, False, 0, 1, -1, GREATEST_LONG, (1,) * 59 + (2,), (1,) * 60 + (2,), (2,) + (1,) * 60,
    (1,) * 60 + (True,), (1,) * 400 + (None,), [(1, 0)], ((1, 0), (0, 1)),
]


def pair_by_words(row):
    m = len(row)
    pairs = [(j, k) for j in range(m) for k in range(j, m) if row[j * k % m] != row[j] * row[k]]
    return min(pairs) if pairs else None


def verdict_by_words(row):
    """Point 40 word for word."""
    m = len(row)
    pair = pair_by_words(row)
    if pair is not None:
        return ("fails", pair)
    return ("multiplies", min(step for step in range(1, m + 1) if all(row[k] == row[(k + step) % m] for k in range(m))))


class SignRow(SoonTest):
    def test_written_out(self):
        self.assertEqual(sign_row(1), (1,))
        self.assertEqual(sign_row(3), (0, 1, -1))
        self.assertEqual(sign_row(5), (0, 1, -1, -1, 1))
        self.assertEqual(sign_row(9), (0, 1, 1, 0, 1, 1, 0, 1, 1))

    def test_each_odd_m(self):
        for m in range(1, 60, 2):
            told = sign_row(m)
            self.assertIs(type(told), tuple)
            self.assertEqual(told, tuple(exchanged(k, m) for k in range(m)))
            self.assertEqual(verdict_of(told)[0], "multiplies")

    def test_m_below_one(self):
        for m in (0, -1, -2, -3, -61, -62, -LEAST_LONG, -GREATEST_LONG):
            refused_alike(self, NoCount, sign_row, m)

    def test_even_m(self):
        for m in (2, 4, 58, 60, 62, 100, LEAST_LONG):
            refused_alike(self, NotOdd, sign_row, m)

    def test_m_too_great(self):
        for m in (61, 63, 201, THREES, SEVENS, GREATEST_LONG):
            refused_alike(self, TooMany, sign_row, m)
        self.assertEqual(len(sign_row(59)), 59)


class VerdictOf(SoonTest):
    def test_written_out(self):
        for row, told in [
            ((1,), ("multiplies", 1)), ((0,), ("multiplies", 1)), ((-1,), ("fails", (0, 0))),
            ((0, 1, -1), ("multiplies", 3)), ((1, 1, 1), ("multiplies", 1)), ((0, 1, 0, 1), ("multiplies", 2)),
            ((0, 1, 1, 0, 1, 1, 0, 1, 1), ("multiplies", 3)), ((0, -1), ("fails", (1, 1))),
            ((0, 0, 1), ("fails", (1, 2))), ((1, 0), ("fails", (0, 1))), ((0, 1, 1, -1, -1), ("fails", (2, 2))),
            ((0, 1, 1, -1, 1), ("fails", (2, 3))),
        ]:
            self.assertEqual(verdict_of(row), told)

    def test_short_ones_by_words(self):
        for row in SHORT:
            told = verdict_of(row)
            self.assertIs(type(told), tuple)
            self.assertEqual(told, verdict_by_words(row), row)

    def test_rows_of_m(self):
        rounds = {1: 1, 9: 3, 25: 5, 27: 3, 45: 15, 49: 7, 15: 15, 59: 59}
        for m in range(1, 60, 2):
            told = verdict_of(sign_row(m))
            self.assertEqual(told, verdict_by_words(sign_row(m)))
            self.assertEqual(m % told[1], 0)
            self.assertEqual(told[1], rounds.get(m, told[1]))

    def test_sixty_places(self):
        for row in SIXTY:
            self.assertEqual(verdict_of(row), verdict_by_words(row))
        self.assertEqual(verdict_of((0, 1) * 30), ("multiplies", 2))
        self.assertEqual(verdict_of((0, 1, -1) * 20), ("multiplies", 3))

    def test_one_place_changed(self):
        for m in (15, 27, 59):
            for place in range(m):
                for number in (-1, 0, 1):
                    row = sign_row(m)[:place] + (number,) + sign_row(m)[place + 1:]
                    self.assertEqual(verdict_of(row), verdict_by_words(row))

    def test_no_row_of_any_kind(self):
        for thing in NO_ROWS:
            refused_alike(self, NoRow, verdict_of, thing)

    def test_no_wholes_at_each_place(self):
        for thing in NO_WHOLES:
            for place in range(3):
                refused_alike(self, NoRow, verdict_of, tuple(thing if k == place else 1 for k in range(3)))

    def test_too_many_places(self):
        for row in TOO_LONG:
            refused_alike(self, TooMany, verdict_of, row)

    def test_answered_as_before_behind_refusals(self):
        refused_alike(self, NoRow, verdict_of, (0, 1, 2))
        refused_alike(self, TooMany, verdict_of, (1,) * 61)
        self.assertEqual(verdict_of((0, 1, -1)), ("multiplies", 3))


class Multiplied(SoonTest):
    def test_written_out(self):
        self.assertEqual(multiplied((1,), (-1,)), (-1,))
        self.assertEqual(multiplied((0, 1, -1), (-1, -1, -1)), (0, -1, 1))

    def test_place_by_place(self):
        rows = [row for row in SHORT if len(row) <= 3] + SIXTY
        for one, other in itertools.product(rows, repeat=2):
            if len(one) == len(other):
                told = multiplied(one, other)
                self.assertIs(type(told), tuple)
                self.assertEqual(told, tuple(one[k] * other[k] for k in range(len(one))))

    def test_two_that_multiply(self):
        rows = [row for row in SHORT + SIXTY + [sign_row(3) * 20, sign_row(5) * 12, sign_row(15) * 4]
                if verdict_of(row)[0] == "multiplies"]
        for one, other in itertools.product(rows, repeat=2):
            if len(one) == len(other):
                self.assertEqual(verdict_of(multiplied(one, other))[0], "multiplies")
        self.assertEqual(multiplied(sign_row(3) * 5, sign_row(5) * 3), sign_row(15))

    def test_no_row_at_either_place_and_at_both(self):
        for thing in NO_ROWS:
            for row in [(1,), (0, 1), (1,) * 60, (1,) * 61]:
                refused_alike(self, NoRow, multiplied, thing, row)
                refused_alike(self, NoRow, multiplied, row, thing)
            refused_alike(self, NoRow, multiplied, thing, thing)

    def test_unlike_lengths(self):
        for one, other in [((1,), (1, 1)), ((0, 1, -1), (0, 1)), ((1,) * 60, (1,) * 59)]:
            refused_alike(self, NoRow, multiplied, one, other)
            refused_alike(self, NoRow, multiplied, other, one)

    def test_unlike_lengths_where_one_is_too_long_or_both(self):
        for row in TOO_LONG:
            for other in [(1,), (1,) * 60, (1,) * 64, (1,) * 399]:
                refused_alike(self, NoRow, multiplied, row, other)
                refused_alike(self, NoRow, multiplied, other, row)

    def test_too_many_places(self):
        for row in TOO_LONG:
            refused_alike(self, TooMany, multiplied, row, row)
            refused_alike(self, TooMany, multiplied, row, (0,) * len(row))

    def test_answered_as_before_behind_refusals(self):
        refused_alike(self, NoRow, multiplied, (0, 1, -1), (-1, -1))
        refused_alike(self, TooMany, multiplied, (1,) * 61, (1,) * 61)
        self.assertEqual(multiplied((0, 1, -1), (-1, -1, -1)), (0, -1, 1))


if __name__ == "__main__":
    unittest.main()
