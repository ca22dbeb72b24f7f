"""What the document promises over the whole program: point 6, the interface, refusals and told lists."""

import importlib
import inspect
import math
import unittest
from fractions import Fraction

from helper import GREATEST_LONG, LEAST_LONG, SEVENS, THREES, SoonTest, alternating, refused_alike, small_tables
from sawsign import errors
from sawsign.desk import Desk
from sawsign.euclid import folded, steps_of
from sawsign.exchange import exchanged, shuffle_sign, sign_rows
from sawsign.floors import parts_of, points_under, sum_rows, whole_sum
from sawsign.fractions import fraction, over
from sawsign.halves import half_rows, overs_of
from sawsign.papers import prime_paper, sees_paper
from sawsign.roads import sign_by_halves, sign_by_points, sign_by_rounds
from sawsign.roots import root_by
from sawsign.rows import multiplied, sign_row, verdict_of
from sawsign.shuffles import behind, crossings_of, rounds_of, shuffle_of, sign_of, undone
from sawsign.tables import back_of, number_of, steady_of, together
from sawsign.teeth import pair_sum, pair_through, sign_by_teeth, teeth_of, three_way, tooth_sum, twelve
from sawsign.texts import read_fraction, read_table, read_word
from sawsign.wholes import power_by, turned
from sawsign.words import counts_of, table_of, word_of

# Each function of the interface, with how many things are handed to it.
INTERFACE = {
    "wholes": {"shared": 2, "turned": 2, "power_by": 3},
    "euclid": {"steps_of": 2, "folded": 1},
    "shuffles": {"is_shuffle": 1, "behind": 2, "undone": 1, "shuffle_of": 2, "rounds_of": 1, "crossings_of": 1,
                 "sign_of": 1},
    "floors": {"parts_of": 4, "whole_sum": 4, "sum_rows": 4, "points_under": 2},
    "halves": {"half_rows": 2, "overs_of": 2},
    "papers": {"sees_paper": 2, "prime_paper": 1},
    "roots": {"root_by": 3},
    "exchange": {"sign_rows": 2, "exchanged": 2, "shuffle_sign": 2},
    "roads": {"sign_by_rounds": 2, "sign_by_halves": 2, "sign_by_points": 2},
    "fractions": {"fraction": 2, "plus": 2, "minus": 2, "times": 2, "over": 2},
    "teeth": {"tooth": 1, "teeth_of": 2, "pair_through": 3, "pair_sum": 3, "tooth_sum": 2, "twelve": 2, "three_way": 3,
              "sign_by_teeth": 2},
    "tables": {"is_table": 1, "together": 2, "back_of": 1, "number_of": 1, "steady_of": 1},
    "words": {"table_of": 1, "word_of": 1, "counts_of": 1},
    "rows": {"sign_row": 1, "verdict_of": 1, "multiplied": 2},
    "texts": {"shown_fraction": 1, "shown_table": 1, "shown_word": 1, "read_fraction": 1, "read_table": 1,
              "read_word": 1},
}


def sign_of_count(count):
    return 1 if count % 2 == 0 else -1


def sign_of_whole(number):
    return (number > 0) - (number < 0)


class Interface(unittest.TestCase):
    def test_each_function_stands_in_its_module(self):
        for module, functions in INTERFACE.items():
            for name, things in functions.items():
                with self.subTest(module=module, name=name):
                    function = getattr(importlib.import_module("sawsign." + module), name)
                    kinds = [parameter.kind for parameter in inspect.signature(function).parameters.values()]
                    self.assertEqual(kinds, [inspect.Parameter.POSITIONAL_OR_KEYWORD] * things)

    def test_the_desk(self):
        self.assertEqual(Desk().tell("names"), "none")


class OneSign(SoonTest):
    def check_long_roads(self, a, m):
        sign = exchanged(a, m)
        self.assertIn(sign, (1, -1))
        self.assertEqual(shuffle_sign(a, m), sign)
        self.assertEqual(sign_of_count(overs_of(a, m)), sign)
        self.assertEqual(sign_by_points(a, m), sign)
        self.assertEqual(sign_by_teeth(a, m), sign)
        self.assertEqual((twelve(a, m) - m - 1) % 8, 6 if sign == 1 else 2)
        if a % 2 == 1:
            self.assertEqual(sign_of_count(points_under(a, m)), sign)

    def check_all_roads(self, a, m):
        self.check_long_roads(a, m)
        sign = exchanged(a, m)
        self.assertEqual(sign_of(shuffle_of(a, m)), sign)
        self.assertEqual(sign_of_count(crossings_of(shuffle_of(a, m))), sign)
        self.assertEqual(sign_by_rounds(a, m), sign)
        self.assertEqual(sign_by_halves(a, m), sign)
        if m < 60:
            self.assertEqual(sign_row(m)[a % m], sign)

    def test_each_odd_m_and_each_a_apart(self):
        for m in list(range(1, 46, 2)) + [195, 199]:
            for a in list(range(-m, m + 2)) + [THREES, -SEVENS, LEAST_LONG]:
                if math.gcd(a, m) == 1:
                    self.check_all_roads(a, m)

    def test_long_ones(self):
        for m in (THREES, SEVENS, GREATEST_LONG):
            for a in (2, -5, 8, LEAST_LONG, -THREES, SEVENS, GREATEST_LONG - 1):
                if math.gcd(a, m) == 1:
                    self.check_long_roads(a, m)

    def test_primes(self):
        for p in (3, 5, 7, 13, 17, 43, 197, 65537, 999983):
            paper = prime_paper(p)
            self.assertIs(sees_paper(paper, p), True)
            for a in list(range(-20, 21)) + [THREES, -SEVENS]:
                if a % p != 0:
                    told = root_by(paper, p, a)
                    self.assertEqual(told[0], "root" if exchanged(a, p) == 1 else "none")
                    if told[0] == "root":
                        self.assertEqual((told[1] * told[1] - a) % p, 0)

    def test_even_m(self):
        for m in list(range(2, 62, 2)) + [200]:
            for a in range(-m, m + 1):
                if math.gcd(a, m) == 1:
                    self.assertEqual(shuffle_sign(a, m), sign_of(shuffle_of(a, m)))


class Sums(SoonTest):
    def test_gone_through_and_told(self):
        for n, m, a, b in [(200, 7, 3, -2), (200, SEVENS, -THREES, LEAST_LONG), (0, 1, 1, 1)]:
            self.assertEqual(whole_sum(n, m, a, b), sum(parts_of(n, m, a, b)))
            self.assertEqual(whole_sum(n, m, a, b), sum(row[4] for row in sum_rows(n, m, a, b)))
        for a, b, m in [(3, 7, 200), (-14, 21, 196), (THREES, SEVENS, 199), (5, 5, 1)]:
            self.assertEqual(pair_sum(a, b, m), pair_through(a, b, m))

    def test_two_and_three_exchanged(self):
        for a, m in [(3, 7), (15, 9), (THREES, SEVENS), (GREATEST_LONG, THREES)]:
            told = points_under(a, m) + points_under(m, a)
            self.assertEqual(told, (a - 1) * (m - 1) // 4 + (math.gcd(a, m) - 1) // 2)
        for a, b, c in [(3, 4, 5), (1, 1, 7), (THREES, SEVENS, LEAST_LONG)]:
            total = sum(Fraction(one[0], one[1]) for one in three_way(a, b, c))
            self.assertEqual(total, Fraction(a * a + b * b + c * c, 12 * a * b * c) - Fraction(1, 4))

    def test_numbers_of_tables(self):
        tables = small_tables(1) + [((5, 2), (7, 3)), ((-5, 2), (7, -3))]
        for one in tables:
            for other in tables:
                both = together(one, other)
                signs = sign_of_whole(one[1][0]) * sign_of_whole(other[1][0]) * sign_of_whole(both[1][0])
                self.assertEqual(number_of(both), number_of(one) + number_of(other) - 3 * signs)
            if min(one[0] + one[1]) >= 0:
                u, v = counts_of(word_of(one))
                self.assertEqual(number_of(one), u - v + (3 if one[1][0] > 0 else 0))


class Primes(SoonTest):
    def test_a_prime_with_a_paper_or_with_its_least_divisor(self):
        least = list(range(10 ** 6))
        for q in range(2, 1000):
            if least[q] == q:
                for number in range(q * q, 10 ** 6, q):
                    least[number] = min(least[number], q)
        for n in list(range(2, 3000)) + list(range(500000, 501000)) + list(range(999000, 10 ** 6)):
            if least[n] == n:
                self.assertIs(sees_paper(prime_paper(n), n), True)
            else:
                with self.assertRaises(errors.NoPrime) as caught:
                    prime_paper(n)
                self.assertEqual(caught.exception.divisor, least[n])


class Rows(SoonTest):
    def test_a_row_multiplies_or_two_places_show_that_it_does_not(self):
        for m in range(1, 60, 2):
            row = sign_row(m)
            kind, step = verdict_of(row)
            self.assertEqual(kind, "multiplies")
            self.assertEqual(row, row[:step] * (m // step))
            kind, pair = verdict_of(tuple(-number for number in row))
            self.assertEqual(kind, "fails")
            self.assertNotEqual(-row[pair[0] * pair[1] % m], row[pair[0]] * row[pair[1]])


# A good question, and questions that are refused, of each function that refuses something.
QUESTIONS = [
    (turned, (3, 7), [("NoCount", (3, 0)), ("NotApart", (6, 9))]),
    (power_by, (2, 10, 7), [("NoCount", (2, -1, 7)), ("NoCount", (2, 1, 0))]),
    (steps_of, (7, 5), [("NoCount", (7, 0))]),
    (folded, ([1, 2, 2],), [("NoCount", ([],)), ("NoCount", ([1, 0],))]),
    (behind, ((1, 0), (0, 1)), [("NoShuffle", ((1, 0), (0,))), ("TooMany", (tuple(range(201)),) * 2)]),
    (undone, ((1, 2, 0),), [("NoShuffle", ((1, 1),)), ("TooMany", (tuple(range(201)),))]),
    (rounds_of, ((1, 2, 0),), [("NoShuffle", (None,)), ("TooMany", (tuple(range(201)),))]),
    (shuffle_of, (3, 7), [("NoCount", (3, 0)), ("TooMany", (201, 201)), ("NotApart", (2, 4))]),
    (parts_of, (5, 3, 2, 1), [("NoCount", (-1, 3, 2, 1)), ("TooMany", (201, 3, 2, 1))]),
    (whole_sum, (5, 3, 2, 1), [("NoCount", (5, 0, 2, 1))]),
    (points_under, (5, 7), [("NoCount", (5, -2)), ("NotOdd", (5, 2))]),
    (half_rows, (3, 7), [("NoCount", (3, 0)), ("NotOdd", (3, 202)), ("TooMany", (3, 201)), ("NotApart", (3, 9))]),
    (overs_of, (3, 7), [("NoCount", (3, 0)), ("NotOdd", (3, 2))]),
    (prime_paper, (7,), [("NoPrime", (9,)), ("TooMany", (10 ** 6,))]),
    (root_by, ([(3, 2, [(2, 1)])], 3, 1), [("NoPaper", ([], 3, 1)), ("NoPaper", (None, 2, 1))]),
    (sign_rows, (3, 7), [("NoCount", (3, 0)), ("NotOdd", (3, 2))]),
    (shuffle_sign, (3, 8), [("NoCount", (3, 0)), ("NotApart", (2, 8))]),
    (sign_by_points, (3, 7), [("NoCount", (0, 0)), ("NotOdd", (2, 2)), ("NotApart", (3, 9))]),
    (sign_by_teeth, (3, 7), [("NoCount", (0, 0)), ("NotOdd", (2, 2)), ("NotApart", (3, 9))]),
    (fraction, (6, 8), [("NoFraction", (6, 0))]),
    (over, ((1, 2), (3, 4)), [("NoFraction", ((1, 2), (0, 1)))]),
    (teeth_of, (1, 3), [("NoCount", (1, 0)), ("TooMany", (1, 201))]),
    (pair_through, (1, 2, 3), [("NoCount", (1, 2, 0)), ("TooMany", (1, 2, 201))]),
    (pair_sum, (1, 2, 3), [("NoCount", (1, 2, 0))]),
    (tooth_sum, (1, 3), [("NoCount", (1, 0))]),
    (twelve, (1, 3), [("NoCount", (1, 0))]),
    (three_way, (3, 4, 5), [("NoCount", (2, 4, 0)), ("NotApart", (2, 4, 5))]),
    (together, (((1, 1), (0, 1)),) * 2, [("NoTable", (((1, 1), (0, 1)), None))]),
    (back_of, (((5, 2), (7, 3)),), [("NoTable", (((5, 2), (7, 4)),))]),
    (number_of, (((5, 2), (7, 3)),), [("NoTable", ((),))]),
    (steady_of, (((5, 2), (7, 3)),), [("NoTable", (True,))]),
    (table_of, ([("u", 2)],), [("NoWord", ([("u", 0)],))]),
    (word_of, (((5, 2), (7, 3)),), [("NoWord", (((1, -1), (0, 1)),)), ("NoTable", (((1, -1), (0, 2)),))]),
    (counts_of, ([("u", 2)],), [("NoWord", (None,))]),
    (sign_row, (9,), [("NoCount", (0,)), ("NotOdd", (62,)), ("TooMany", (61,))]),
    (verdict_of, ((0, 1, -1),), [("NoRow", ((),)), ("TooMany", ((1,) * 61,))]),
    (multiplied, ((0, 1), (1, 1)), [("NoRow", ((1,) * 61, (1,))), ("TooMany", ((1,) * 61, (1,) * 61))]),
    (read_fraction, ("6/8",), [("NoText", ("6/0",))]),
    (read_table, ("5 2 7 3",), [("NoText", ("5 2 7",)), ("NoTable", ("5 2 7 4",))]),
    (read_word, ("u 2",), [("NoText", ("u 0",))]),
]


def changed_throughout(told):
    """Changes each list of what was told, those within it too."""
    for inner in told if isinstance(told, (list, tuple)) else ():
        changed_throughout(inner)
    if isinstance(told, list):
        told.append("changed")
        told[0] = None


class AskedAgain(SoonTest):
    def test_refused_and_answered_as_before(self):
        for ask, good, refusals in QUESTIONS:
            told = ask(*good)
            for name, things in refusals:
                refused_alike(self, getattr(errors, name), ask, *things)
                self.assertEqual(ask(*good), told, ask)

    def test_what_is_done_to_told_lists_changes_nothing(self):
        for ask, good, refusals in QUESTIONS + [(prime_paper, (999983,), [])]:
            shown = repr(ask(*good))
            changed_throughout(ask(*good))
            self.assertEqual(repr(ask(*good)), shown, ask)

    def test_nothing_handed_in_is_changed(self):
        for ask, good, refusals in QUESTIONS:
            for things in [good] + [things for name, things in refusals]:
                before = repr(things)
                try:
                    ask(*things)
                except errors.SawError:
                    pass
                self.assertEqual(repr(things), before, ask)

    def test_what_is_done_to_a_list_behind_the_call_changes_nothing(self):
        word = alternating([2, 3])
        parts = [1, 2, 2]
        table, fold = table_of(word), folded(parts)
        word.append(None)
        parts[0] = None
        self.assertEqual((table, fold), (((7, 2), (3, 1)), (7, 5)))
        self.assertEqual((table_of(alternating([2, 3])), folded([1, 2, 2])), (table, fold))

    def test_each_refusal_stands_under_saw_error(self):
        seen = set()
        for ask, good, refusals in QUESTIONS:
            for name, things in refusals:
                with self.assertRaises(errors.SawError) as caught:
                    ask(*things)
                seen.add(type(caught.exception).__name__)
        for line, name in [("", "NoLine"), ("show a", "NoName"), ("undo", "NoDeed")]:
            refused_alike(self, getattr(errors, name), Desk().tell, line)
            seen.add(name)
        self.assertEqual(len(seen), 15)


if __name__ == "__main__":
    unittest.main()
