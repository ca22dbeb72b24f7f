import itertools
import unittest

from helper import GREATEST_LONG, LEAST_LONG, NO_TABLES, NO_WORDS, SEVENS, THREES
from helper import SoonTest, alternating, long_fibonacci_pair, long_tables, refused_alike, short_words, small_tables
from helper import table_above
from sawsign.errors import NoTable, NoWord
from sawsign.tables import is_table, number_of, steady_of, together
from sawsign.words import counts_of, table_of, word_of

OWN = ((1, 0), (0, 1))
LETTERS = {"u": ((1, 1), (0, 1)), "v": ((1, 0), (1, 1))}
SHORT = short_words(4, 3) + short_words(6, 1) + [[("u", 40)], [("v", 9), ("u", 31)]]
SIXTY = [10 ** 59, 10 ** 60 - 1, 3 ** 125, 7 ** 70]
LONG = [
    alternating([1] * 400), alternating([1] * 399, "vu"), alternating(list(range(1, 201))), alternating(SIXTY),
    alternating(SIXTY, "vu"), alternating(SIXTY * 100), alternating(SIXTY * 99 + [1], "vu"), [("u", SIXTY[1])],
    [("v", SIXTY[1])], [("u", GREATEST_LONG)], [("v", THREES), ("u", SEVENS)], alternating([1, GREATEST_LONG] * 200),
]


def table_by_words(word):
    """Letter by letter, put together in their order."""
    table = OWN
    for letter, often in word:
        for turn in range(often):
            table = together(table, LETTERS[letter])
    return table


class TableOf(SoonTest):
    def test_the_empty_word_and_each_letter(self):
        self.assertEqual(table_of([]), OWN)
        self.assertEqual(table_of([("u", 1)]), ((1, 1), (0, 1)))
        self.assertEqual(table_of([("v", 1)]), ((1, 0), (1, 1)))

    def test_written_out(self):
        self.assertEqual(table_of([("u", 1), ("v", 1)]), ((2, 1), (1, 1)))
        self.assertEqual(table_of([("v", 1), ("u", 1)]), ((1, 1), (1, 2)))
        self.assertEqual(table_of([("u", 2), ("v", 3)]), ((7, 2), (3, 1)))
        self.assertEqual(table_of([("u", SIXTY[0])]), ((1, SIXTY[0]), (0, 1)))
        self.assertEqual(table_of([("v", SIXTY[1])]), ((1, 0), (SIXTY[1], 1)))

    def test_letter_by_letter(self):
        for word in SHORT:
            told = table_of(word)
            self.assertIs(is_table(told), True)
            self.assertEqual(told, table_by_words(word), word)

    def test_long_ones(self):
        for word in LONG:
            self.assertIs(is_table(table_of(word)), True)
            for cut in (1, len(word) // 2):
                self.assertEqual(together(table_of(word[:cut]), table_of(word[cut:])), table_of(word))

    def test_nothing_handed_in_is_changed(self):
        word = [("u", 2), ("v", 3)]
        for ask in (table_of, counts_of):
            ask(word)
            self.assertEqual(word, [("u", 2), ("v", 3)])
        told = table_of(word)
        word.clear()
        self.assertEqual(told, ((7, 2), (3, 1)))


class WordOf(SoonTest):
    def test_written_out(self):
        for table, word in [
            (OWN, []), (((1, 1), (0, 1)), [("u", 1)]), (((1, 0), (1, 1)), [("v", 1)]), (((1, 7), (0, 1)), [("u", 7)]),
            (((1, 0), (5, 1)), [("v", 5)]), (((7, 2), (3, 1)), [("u", 2), ("v", 3)]),
            (((5, 2), (7, 3)), [("v", 1), ("u", 2), ("v", 2)]),
        ]:
            self.assertEqual(word_of(table), word)

    def test_each_word_told_back(self):
        for word in SHORT + LONG:
            told = word_of(table_of(word))
            self.assertIs(type(told), list)
            self.assertTrue(all(type(run) is tuple for run in told))
            self.assertEqual(told, word)

    def test_each_table_told_back(self):
        # All whose places lie from 0 to 9, among them those of one row longer than the other.
        for a, b, c, d in itertools.product(range(10), repeat=4):
            if a * d - b * c == 1:
                self.assertEqual(table_of(word_of(((a, b), (c, d)))), ((a, b), (c, d)))

    def test_long_tables_told_back(self):
        low, high = long_fibonacci_pair()
        for c, d in [(THREES, SEVENS), (SEVENS, THREES), (GREATEST_LONG, LEAST_LONG), (low, high), (high, low)]:
            for times in (0, 1, 7):
                table = table_above(c, d, times)
                self.assertEqual(table_of(word_of(table)), table)
        for number in (GREATEST_LONG, THREES):
            self.assertEqual(word_of(((1, number), (0, 1))), [("u", number)])
            self.assertEqual(word_of(((1, 0), (number, 1))), [("v", number)])

    def test_a_told_list_is_the_askers_own(self):
        for table, word in [(OWN, []), (((7, 2), (3, 1)), [("u", 2), ("v", 3)])]:
            word_of(table).append(("u", 1))
            self.assertEqual(word_of(table), word)

    def test_a_place_below_nought(self):
        tables = [table for table in small_tables(3) + long_tables() if min(table[0] + table[1]) < 0]
        for place in range(4):
            self.assertTrue(any((table[0] + table[1])[place] < 0 for table in tables))
        for table in tables + [((-1, 0), (0, -1)), ((1, -1), (0, 1)), ((1, 0), (-1, 1)), ((0, -1), (1, 0))]:
            refused_alike(self, NoWord, word_of, table)

    def test_no_table(self):
        for thing in NO_TABLES + [[], [("u", 1)], ((-1, 0), (0, 1)), ((1, -1), (1, 1))]:
            refused_alike(self, NoTable, word_of, thing)

    def test_answered_as_before_behind_refusals(self):
        refused_alike(self, NoWord, word_of, ((1, -1), (0, 1)))
        refused_alike(self, NoTable, word_of, ((7, 2), (3, 2)))
        self.assertEqual(word_of(((7, 2), (3, 1))), [("u", 2), ("v", 3)])


class CountsOf(SoonTest):
    def test_written_out(self):
        for word, told in [
            ([], (0, 0)), ([("u", 1)], (1, 0)), ([("v", 1)], (0, 1)), ([("u", 2), ("v", 3)], (2, 3)),
            ([("v", 1), ("u", 2), ("v", 4), ("u", 8)], (10, 5)), ([("u", SIXTY[0])], (SIXTY[0], 0)),
        ]:
            self.assertEqual(counts_of(word), told)
            self.assertIs(type(counts_of(word)), tuple)

    def check_numbers(self, word):
        u, v = counts_of(word)
        self.assertEqual((u, v), tuple(sum(often for letter, often in word if letter == one) for one in "uv"))
        table = table_of(word)
        self.assertEqual(number_of(table), u - v + (3 if table[1][0] > 0 else 0), word)
        self.assertEqual(steady_of(table), u - v, word)

    def test_the_numbers_of_the_table(self):
        self.assertTrue(any(table_of(word)[1][0] == 0 for word in SHORT))
        self.assertTrue(any(table_of(word)[1][0] > 0 for word in SHORT))
        for word in SHORT:
            self.check_numbers(word)

    def test_the_numbers_of_long_tables(self):
        for word in [alternating([1] * 300), alternating(SIXTY[:2]), alternating(SIXTY, "vu"), [("u", GREATEST_LONG)],
                     [("v", SIXTY[1])], alternating(list(range(1, 61)))]:
            self.check_numbers(word)


class Refusals(SoonTest):
    def test_no_word_of_any_kind(self):
        for ask in (table_of, counts_of):
            for thing in NO_WORDS:
                refused_alike(self, NoWord, ask, thing)

    def test_answered_as_before_behind_refusals(self):
        for ask, told in [(table_of, ((7, 2), (3, 1))), (counts_of, (2, 3))]:
            refused_alike(self, NoWord, ask, [("u", 2), ("v", True)])
            self.assertEqual(ask([("u", 2), ("v", 3)]), told)


if __name__ == "__main__":
    unittest.main()
