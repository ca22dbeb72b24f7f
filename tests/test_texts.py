import itertools
import re
import unittest
from fractions import Fraction

from helper import GREATEST_LONG, NO_TABLES, NO_WORDS, THREES, SoonTest, alternating, long_tables, pair_of
from helper import refused_alike, short_words, small_tables, table_above
from sawsign.errors import NoTable, NoText, NoWord
from sawsign.fractions import fraction
from sawsign.teeth import tooth_sum
from sawsign.texts import read_fraction, read_table, read_word, shown_fraction, shown_table, shown_word
from sawsign.words import table_of, word_of

READERS = [read_fraction, read_table, read_word]
SIXTY = "9" * 60
SIXTY_ONE = "1" + "0" * 60
NUMBERS = ["0", "1", "-1", "7", "-12", "100", SIXTY, "-" + SIXTY, "1" + "0" * 59, "-1" + "0" * 59]
NO_NUMBERS = [
    "", "-", "--1", "00", "01", "-0", "-01", "-00", "+1", "+0", "1-", "1.0", "1e5", "1_0", "0x1", "1,000", "a", "u",
    "none", "one", " ", SIXTY_ONE, "-" + SIXTY_ONE, "0" + SIXTY, "9" * 61, "1" * 4000, "0" * 60, "(1)", "'1'",
    "1;", "~", "!",
]
# Every sign from the blank to ~ that stands in no number.
OTHER_SIGNS = [chr(code) for code in range(ord(" "), ord("~") + 1) if chr(code) not in "0123456789-"]
NUMBER_FORM = "(0|-?[1-9][0-9]{0,59})"
FORMS = {
    read_fraction: NUMBER_FORM + "(/[1-9][0-9]{0,59})?",
    read_table: " ".join([NUMBER_FORM] * 4),
    # For words of one run.
    read_word: "none|[uv] [1-9][0-9]{0,59}",
}


class ShownAndReadFractions(SoonTest):
    def test_written_out(self):
        for x, text in [
            ((0, 1), "0"), ((5, 1), "5"), ((-5, 1), "-5"), ((1, 2), "1/2"), ((-1, 2), "-1/2"), ((10, 21), "10/21"),
            ((int(SIXTY), 1), SIXTY), ((-1, int(SIXTY)), "-1/" + SIXTY),
        ]:
            self.assertEqual(shown_fraction(x), text)
            self.assertEqual(read_fraction(text), x)

    def test_read_back(self):
        for top, bottom in itertools.product(range(-20, 21), range(1, 21)):
            x = pair_of(Fraction(top, bottom))
            text = shown_fraction(x)
            self.assertIs(type(text), str)
            self.assertEqual(text, str(Fraction(top, bottom)))
            self.assertEqual(read_fraction(text), x)
        self.assertEqual(read_fraction(shown_fraction(tooth_sum(3 ** 50, 7 ** 30))), tooth_sum(3 ** 50, 7 ** 30))

    def test_parts_of_many_figures_are_shown(self):
        for top, bottom in [(3 ** 836, 7 ** 472), (-(10 ** 400 - 1), 1), (-1, 10 ** 399)]:
            self.assertEqual(shown_fraction((top, bottom)), str(Fraction(top, bottom)))

    def test_any_number_a_stroke_and_any_number_from_one_on(self):
        for text, told in [("6/8", (3, 4)), ("-6/8", (-3, 4)), ("0/5", (0, 1)), ("5/1", (5, 1)), ("-4/2", (-2, 1)),
                           ("0/1", (0, 1)), (SIXTY + "/" + SIXTY, (1, 1)), ("-" + SIXTY + "/9", (-int("1" * 60), 1))]:
            self.assertEqual(read_fraction(text), told)
        for top, bottom in itertools.product(NUMBERS, NUMBERS):
            if bottom.startswith("-") or bottom == "0":
                refused_alike(self, NoText, read_fraction, f"{top}/{bottom}")
            else:
                self.assertEqual(read_fraction(f"{top}/{bottom}"), fraction(int(top), int(bottom)))

    def test_no_fraction(self):
        texts = ["/", "1/", "/1", "1//2", "1/2/3", "1/0", "0/0", "1/-2", "-1/-2", "1/+2", "+1/2", "-0/5", "1/02",
                 "01/2", " 1/2", "1/2 ", "1 /2", "1/ 2", "1 / 2", "1 2", "1\\2", "1:2", "1/u", "none", "1/" + SIXTY_ONE,
                 SIXTY_ONE + "/1", "1/" + "2" * 3998, "/" * 4000]
        for text in texts + NO_NUMBERS + [f"{one}/2" for one in NO_NUMBERS] + [f"1/{one}" for one in NO_NUMBERS]:
            refused_alike(self, NoText, read_fraction, text)


class ShownAndReadTables(SoonTest):
    def test_written_out(self):
        for table, text in [
            (((1, 0), (0, 1)), "1 0 0 1"), (((-1, 0), (0, -1)), "-1 0 0 -1"), (((5, 2), (7, 3)), "5 2 7 3"),
            (((5, -2), (-7, 3)), "5 -2 -7 3"), (((1, int(SIXTY)), (0, 1)), "1 " + SIXTY + " 0 1"),
            (((1, 0), (-int(SIXTY), 1)), "1 0 -" + SIXTY + " 1"),
        ]:
            self.assertEqual(shown_table(table), text)
            self.assertEqual(read_table(text), table)

    def test_read_back(self):
        for table in small_tables(3) + [table_above(3 ** 120, 7 ** 69), table_above(-7 ** 70, 3 ** 110)]:
            text = shown_table(table)
            self.assertIs(type(text), str)
            self.assertEqual(text, " ".join(str(number) for number in table[0] + table[1]))
            self.assertEqual(read_table(text), table)

    def test_long_places_are_shown_and_not_read(self):
        for table in long_tables():
            text = shown_table(table)
            self.assertEqual(text, " ".join(str(number) for number in table[0] + table[1]))
            refused_alike(self, NoText, read_table, text)

    def test_four_numbers_that_make_none(self):
        texts = [f"{a} {b} {c} {d}" for a, b, c, d in itertools.product(range(-2, 3), repeat=4) if a * d - b * c != 1]
        for text in texts + ["0 0 0 0", "1 0 0 2", f"{SIXTY} 0 0 {SIXTY}", f"-{SIXTY} 0 0 1"]:
            refused_alike(self, NoTable, read_table, text)

    def test_no_table_and_no_four_numbers(self):
        texts = ["1 0 0", "1 0 0 1 0", "1 0 0 1 0 0", "1", "1 0 0 1 ", " 1 0 0 1", "1  0 0 1", "1 0 0  1", "1,0,0,1",
                 "((1, 0), (0, 1))", "1/1 0 0 1", "none", "u 1", "1 0 0 " + SIXTY_ONE, "1 " * 1999 + "1", " " * 4000]
        for place in range(4):
            for one in NO_NUMBERS:
                texts.append(" ".join(one if k == place else "1" for k in range(4)))
                texts.append(" ".join(one if k == place else "1001"[k] for k in range(4)))
        for text in texts + NO_NUMBERS + NUMBERS:
            refused_alike(self, NoText, read_table, text)


class ShownAndReadWords(SoonTest):
    def test_written_out(self):
        for word, text in [
            ([], "none"), ([("u", 1)], "u 1"), ([("v", 12)], "v 12"), ([("u", 2), ("v", 3)], "u 2 v 3"),
            ([("v", 1), ("u", int(SIXTY)), ("v", 3)], "v 1 u " + SIXTY + " v 3"),
        ]:
            self.assertEqual(shown_word(word), text)
            self.assertEqual(read_word(text), word)

    def test_read_back(self):
        for word in short_words(4, 3) + [alternating([1] * 400), alternating([10 ** 59, 3 ** 125] * 30, "vu")]:
            text = shown_word(word)
            self.assertIs(type(text), str)
            self.assertEqual(text, " ".join(f"{letter} {often}" for letter, often in word) or "none")
            told = read_word(text)
            self.assertIs(type(told), list)
            self.assertEqual(told, word)
            self.assertEqual(word_of(table_of(told)), word)

    def test_long_oftens_are_shown_and_not_read(self):
        for often in (10 ** 60, GREATEST_LONG, THREES):
            self.assertEqual(shown_word([("u", often)]), f"u {often}")
            refused_alike(self, NoText, read_word, f"u {often}")

    def test_no_word(self):
        texts = ["u", "v", "u 1 v", "1 u", "1", "u 1 u 1", "v 1 u 1 u 2", "u 0", "u -1", "w 1", "U 1", "u1", "u 1v 1",
                 "uv 1", "u 1 1 v", "u u", "1 1", " u 1", "u 1 ", "u  1", "u 1  v 1", "none ", " none", "None",
                 "none none", "u 1 none", "none u 1", "u 1, v 1", "u " + SIXTY_ONE, "u 1 v " + SIXTY_ONE, "u 1 w 1",
                 "u 1 u 1 w 1", "u 1/1", "1 0 0 1", "u " * 2000, "u 1 v 1 " * 500]
        below_one = ["0"] + [number for number in NUMBERS if number.startswith("-")]
        for text in texts + [one for one in NO_NUMBERS if one != "none"]:
            refused_alike(self, NoText, read_word, text)
        for one in NO_NUMBERS + below_one:
            refused_alike(self, NoText, read_word, f"u {one}")
            refused_alike(self, NoText, read_word, f"v 2 u {one}")
            refused_alike(self, NoText, read_word, f"u {one} v 2")

    def test_told_lists_are_the_askers_own(self):
        for text, word in [("none", []), ("u 2 v 3", [("u", 2), ("v", 3)])]:
            read_word(text).append(("w", 1))
            self.assertEqual(read_word(text), word)

    def test_nothing_handed_in_is_changed(self):
        word = [("u", 2), ("v", 3)]
        shown_word(word)
        self.assertEqual(word, [("u", 2), ("v", 3)])


class Texts(SoonTest):
    def test_empty_and_blank_texts(self):
        for read in READERS:
            for text in ("", " ", "  ", "    "):
                refused_alike(self, NoText, read, text)

    def check_by_form(self, read, text):
        """A text is read, or refused with NoTable, just where it has the form; else it is refused with NoText."""
        try:
            read(text)
            told = True
        except NoTable:
            told = True
        except NoText:
            told = False
        self.assertEqual(told, re.fullmatch(FORMS[read], text) is not None, (read, text))

    def test_other_signs_alone_ahead_within_and_behind(self):
        for sign in OTHER_SIGNS:
            for text in ("12", "1/2", "1 0 0 1", "u 12", "none"):
                for other in [sign, sign + text, text + sign, text[:-1] + sign + text[-1], text[0] + sign + text[1:]]:
                    for read in READERS:
                        self.check_by_form(read, other)

    def test_all_short_texts_by_form(self):
        for length in range(6):
            for signs in itertools.product("01-/ u", repeat=length):
                for read in READERS:
                    self.check_by_form(read, "".join(signs))

    def test_texts_like_a_table_by_form(self):
        for pieces in itertools.product(["0", "1", "-1", "-0", "01", ""], repeat=4):
            for between in (" ", "  "):
                self.check_by_form(read_table, between.join(pieces))

    def test_what_is_no_text(self):
        for read in READERS:
            for thing in (None, True, 0, 1, GREATEST_LONG, [], ["1"], ("1",), (1, 2), [("u", 1)], ((1, 0), (0, 1))):
                refused_alike(self, NoText, read, thing)

    def test_what_is_no_table_or_no_word_is_not_shown(self):
        for thing in NO_TABLES:
            refused_alike(self, NoTable, shown_table, thing)
        for thing in NO_WORDS:
            refused_alike(self, NoWord, shown_word, thing)

    def test_sixty_figures_and_sixty_one(self):
        for text in (SIXTY, "-" + SIXTY, "1/" + SIXTY, "-" + SIXTY + "/" + SIXTY):
            read_fraction(text)
        for text in (SIXTY_ONE, "-" + SIXTY_ONE, "1/" + SIXTY_ONE, SIXTY_ONE + "/" + SIXTY_ONE):
            refused_alike(self, NoText, read_fraction, text)
        self.assertEqual(read_table(f"1 -{SIXTY} 0 1"), ((1, 1 - 10 ** 60), (0, 1)))
        refused_alike(self, NoText, read_table, f"1 -{SIXTY_ONE} 0 1")
        refused_alike(self, NoText, read_table, f"1 {SIXTY_ONE} 0 2")
        self.assertEqual(read_word("u " + SIXTY), [("u", 10 ** 60 - 1)])
        refused_alike(self, NoText, read_word, "u " + SIXTY_ONE)

    def test_answered_as_before_behind_refusals(self):
        threes = [(read_fraction, "6/8", "6/0"), (read_table, "5 2 7 3", "5 2 7"), (read_word, "u 2", "u 0")]
        for read, good, bad in threes:
            told = read(good)
            refused_alike(self, NoText, read, bad)
            self.assertEqual(read(good), told)
        refused_alike(self, NoTable, read_table, "5 2 7 4")
        self.assertEqual(read_table("5 2 7 3"), ((5, 2), (7, 3)))


if __name__ == "__main__":
    unittest.main()
