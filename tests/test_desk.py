import itertools
import random
import unittest

from helper import SoonTest, refused_alike
from sawsign.desk import Desk
from sawsign.errors import NoCount, NoDeed, NoLine, NoName, NoTable, NotApart, NotOdd, NoWord, SawError, TooMany
from sawsign.exchange import exchanged, shuffle_sign
from sawsign.floors import points_under, whole_sum
from sawsign.tables import back_of, number_of, steady_of, together
from sawsign.teeth import tooth_sum, twelve
from sawsign.texts import read_table, read_word, shown_fraction, shown_table, shown_word
from sawsign.words import table_of, word_of

SIXTY = "9" * 60
SIXTY_ONE = "1" + "0" * 60
LINE_WORDS = ["table", "word", "let", "together", "back", "drop", "undo", "redo", "names", "show", "number", "steady",
              "spell", "sign", "teeth", "twelve", "points", "shuffle", "parts", "none", "u", "v"]
NO_NAMES = ["A", "aB", "a1", "1", "abcdefghi", "a-b", "a_b", "", "a.", "-", "~", "a" * 3000, "Table", "NAME", "KNOWN"]
NO_NUMBERS = ["", "x", "-0", "00", "01", "+1", "1.0", "1/2", "--1", "-", SIXTY_ONE, "-" + SIXTY_ONE, "NUMBER"]


class DeskTest(SoonTest):
    def setUp(self):
        SoonTest.setUp(self)
        self.desk = Desk()

    def tell(self, *lines):
        for line in lines:
            told = self.desk.tell(line)
        self.assertIs(type(told), str)
        return told

    def refuse(self, error, line):
        """A refused line is refused again, and leaves all as it was."""
        before = self.seen()
        refused_alike(self, error, self.desk.tell, line)
        self.assertEqual(self.seen(), before)

    def refuse_name(self, name, line):
        for turn in range(2):
            with self.assertRaises(NoName) as caught:
                self.desk.tell(line)
            self.assertEqual(caught.exception.name, name)

    def seen(self):
        names = self.desk.tell("names").split(" ")
        shown = []
        for name in names:
            try:
                shown.append(self.desk.tell(f"show {name}"))
            except NoName:
                shown.append(None)
        return names, shown


class Deeds(DeskTest):
    def test_none_at_the_beginning(self):
        self.assertEqual(self.tell("names"), "none")

    def test_table(self):
        self.assertEqual(self.tell("table a 5 2 7 3"), "5 2 7 3")
        self.assertEqual(self.tell("show a"), "5 2 7 3")
        self.assertEqual(self.tell("table a -1 0 0 -1"), "-1 0 0 -1")
        self.assertEqual(self.tell("show a"), "-1 0 0 -1")
        self.assertEqual(self.tell(f"table b 1 -{SIXTY} 0 1"), f"1 -{SIXTY} 0 1")

    def test_word(self):
        for word, shown in [("none", "1 0 0 1"), ("u 1", "1 1 0 1"), ("v 1", "1 0 1 1"), ("u 2 v 3", "7 2 3 1"),
                            ("v " + SIXTY, f"1 0 {SIXTY} 1"), ("v 1 u 2 v 2", "5 2 7 3")]:
            self.assertEqual(self.tell(f"word a {word}"), shown)
            self.assertEqual(self.tell("show a"), shown)
            self.assertEqual(self.tell("spell a"), word)

    def test_let(self):
        self.tell("word a u 1", "word b v 1")
        self.assertEqual(self.tell("let c together a b"), "2 1 1 1")
        self.assertEqual(self.tell("let d together b a"), "1 1 1 2")
        self.assertEqual(self.tell("let e back c"), "1 -1 -1 2")
        self.assertEqual(self.tell("let f together c e"), "1 0 0 1")
        self.assertEqual(self.tell("names"), "a b c d e f")

    def test_let_takes_what_stood_ahead(self):
        self.tell("word a u 1", "word b v 1")
        self.assertEqual(self.tell("let a together a b"), "2 1 1 1")
        self.assertEqual(self.tell("let a together a a"), "5 3 3 2")
        self.assertEqual(self.tell("let b together a b"), "8 3 5 2")
        self.assertEqual(self.tell("let b back b"), "2 -3 -5 8")
        self.assertEqual(self.tell("show a"), "5 3 3 2")

    def test_a_later_change_leaves_what_was_made_of_it(self):
        self.tell("word a u 1", "let b back a", "let c together a a")
        self.tell("word a v 1")
        self.assertEqual(self.tell("show b"), "1 -1 0 1")
        self.assertEqual(self.tell("show c"), "1 2 0 1")

    def test_drop(self):
        self.tell("word b none", "word a none")
        self.assertEqual(self.tell("drop b"), "a")
        self.refuse_name("b", "show b")
        self.refuse_name("b", "drop b")
        self.assertEqual(self.tell("drop a"), "none")
        self.assertEqual(self.tell("names"), "none")

    def test_names_of_one_and_eight_letters(self):
        for name in ("a", "z", "abcdefgh", "zzzzzzzz"):
            self.assertEqual(self.tell(f"table {name} 1 0 0 1"), "1 0 0 1")
            self.assertEqual(self.tell(f"show {name}"), "1 0 0 1")
        self.assertEqual(self.tell("names"), "a abcdefgh z zzzzzzzz")

    def test_names_that_are_words_of_lines(self):
        for place, name in enumerate(LINE_WORDS):
            self.assertEqual(self.tell(f"table {name} 1 {place} 0 1"), f"1 {place} 0 1")
        self.assertEqual(self.tell("names"), " ".join(sorted(LINE_WORDS)))
        for place, name in enumerate(LINE_WORDS):
            self.assertEqual(self.tell(f"show {name}"), f"1 {place} 0 1")
            self.assertEqual(self.tell(f"number {name}"), str(place))
        self.assertEqual(self.tell("let let together together back"), f"1 {3 + 4} 0 1")
        self.assertEqual(self.tell("let together back together"), "1 -3 0 1")
        self.assertEqual(self.tell("let back together together together"), "1 -6 0 1")
        self.assertEqual(self.tell("word word u 5"), "1 5 0 1")
        self.assertEqual(self.tell("word u u 1"), "1 1 0 1")
        self.assertEqual(self.tell("word none none"), "1 0 0 1")
        left = list(LINE_WORDS)
        for name in LINE_WORDS:
            left.remove(name)
            self.assertEqual(self.tell(f"drop {name}"), " ".join(sorted(left)) or "none")

    def test_names_in_their_order(self):
        for name in ("ba", "b", "a", "aa", "ab", "zz", "z"):
            self.tell(f"table {name} 1 0 0 1")
        self.assertEqual(self.tell("names"), "a aa ab b ba z zz")

    def test_the_name_none(self):
        self.assertEqual(self.tell("word none u 3", "names"), "none")
        self.assertEqual(self.tell("show none"), "1 3 0 1")
        self.assertEqual(self.tell("drop none"), "none")
        self.refuse_name("none", "show none")

    def test_two_desks_side_by_side(self):
        other = Desk()
        self.tell("word a u 1")
        self.assertEqual(other.tell("names"), "none")
        refused_alike(self, NoDeed, other.tell, "undo")
        other.tell("word a v 1")
        other.tell("word b v 2")
        self.assertEqual(self.tell("names"), "a")
        self.assertEqual(self.tell("show a"), "1 1 0 1")
        self.assertEqual(other.tell("show a"), "1 0 1 1")
        self.assertEqual(self.tell("undo"), "none")
        self.assertEqual(other.tell("names"), "a b")
        refused_alike(self, NoDeed, other.tell, "redo")
        self.assertEqual(Desk().tell("names"), "none")


class UndoAndRedo(DeskTest):
    def test_undo_as_often_as_there_are_deeds(self):
        self.refuse(NoDeed, "undo")
        self.refuse(NoDeed, "redo")
        self.tell("table a 5 2 7 3", "word b u 1", "let a together a b", "drop b")
        self.assertEqual(self.tell("undo"), "a b")
        self.assertEqual(self.tell("show b"), "1 1 0 1")
        self.assertEqual(self.tell("undo"), "a b")
        self.assertEqual(self.tell("show a"), "5 2 7 3")
        self.assertEqual(self.tell("undo"), "a")
        self.assertEqual(self.tell("undo"), "none")
        self.refuse(NoDeed, "undo")
        self.assertEqual(self.tell("redo"), "a")
        self.assertEqual(self.tell("show a"), "5 2 7 3")
        self.assertEqual(self.tell("redo"), "a b")
        self.assertEqual(self.tell("redo"), "a b")
        self.assertEqual(self.tell("show a"), "5 7 7 10")
        self.assertEqual(self.tell("redo"), "a")
        self.refuse(NoDeed, "redo")
        self.assertEqual(self.tell("undo"), "a b")

    def test_undo_and_redo_are_no_deeds(self):
        self.tell("word a u 1", "word a u 2", "undo", "undo")
        self.refuse(NoDeed, "undo")
        self.tell("redo", "undo", "redo", "redo")
        self.assertEqual(self.tell("show a"), "1 2 0 1")
        self.refuse(NoDeed, "redo")
        self.tell("undo")
        self.assertEqual(self.tell("show a"), "1 1 0 1")

    def test_a_deed_behind_an_undo(self):
        for line in ("table b 1 0 0 1", "word b u 1", "let b back a", "let b together a a", "drop a"):
            self.desk = Desk()
            self.tell("word a u 1", "word a u 2", "undo", line)
            self.refuse(NoDeed, "redo")
            self.tell("undo")
            self.assertEqual(self.tell("names"), "a")
            self.assertEqual(self.tell("show a"), "1 1 0 1")
            self.tell("redo")
            self.assertEqual(self.tell("names"), "none" if line == "drop a" else "a b")

    def test_a_deed_that_leaves_all_as_it_was(self):
        for line in ("table a 1 1 0 1", "word a u 1", "let a together a o", "let a back n"):
            self.desk = Desk()
            self.tell("word o none", "table n 1 -1 0 1", "word a u 1", "word a u 2", "undo", line)
            self.refuse(NoDeed, "redo")
            self.tell("undo")
            self.assertEqual(self.tell("show a"), "1 1 0 1")
            self.assertEqual(self.tell("undo"), "n o")
            self.assertEqual(self.tell("redo"), "a n o")
            self.assertEqual(self.tell("redo"), "a n o")
            self.refuse(NoDeed, "redo")

    def test_what_asks_and_what_is_refused_changes_nothing(self):
        asks = ["names", "show a", "number a", "steady a", "spell a", "sign 3 7", "teeth 1 4", "twelve 1 4",
                "points 5 7", "shuffle 3 8", "parts 10 7 3 2"]
        wrong = ["", "show b", "drop b", "table b 1 0 0 2", "spell m", "sign 1 2", "let b together a c", "undo now",
                 "shuffle 2 4", "word b u 0", f"word b u {SIXTY} v {SIXTY}", "parts -1 1 1 1"]
        for line in asks + wrong:
            self.desk = Desk()
            self.tell("table m -1 0 0 -1", "word a u 1", "word a u 2", "undo")
            before = self.seen()
            try:
                self.desk.tell(line)
            except SawError:
                self.assertIn(line, wrong)
            self.assertEqual(self.seen(), before)
            self.tell("redo")
            self.assertEqual(self.tell("show a"), "1 2 0 1")
            self.assertEqual(self.tell("undo", "undo"), "m")
            self.assertEqual(self.tell("undo"), "none")
            self.refuse(NoDeed, "undo")

    def test_refused_undo_and_redo_change_nothing(self):
        self.tell("word a u 1")
        self.refuse(NoDeed, "redo")
        self.tell("undo")
        self.refuse(NoDeed, "undo")
        self.assertEqual(self.tell("redo"), "a")

    def test_very_many_deeds(self):
        for turn in range(1, 2001):
            self.desk.tell(f"word {'abcdefgh'[turn % 8]} u {turn}")
        for turn in range(2000):
            self.desk.tell("undo")
        self.refuse(NoDeed, "undo")
        self.assertEqual(self.tell("names"), "none")
        for turn in range(2000):
            self.desk.tell("redo")
        self.assertEqual(self.tell("show a"), "1 2000 0 1")
        self.refuse(NoDeed, "redo")


class Asks(DeskTest):
    def test_of_a_table(self):
        for text in ("1 0 0 1", "5 2 7 3", "1 0 1 1", "1 12 0 1", "13 5 18 7", f"1 0 {SIXTY} 1"):
            self.tell(f"table a {text}")
            table = read_table(text)
            self.assertEqual(self.tell("show a"), text)
            self.assertEqual(self.tell("number a"), str(number_of(table)))
            self.assertEqual(self.tell("steady a"), str(steady_of(table)))
            self.assertEqual(self.tell("spell a"), shown_word(word_of(table)))

    def test_of_a_table_with_places_below_nought(self):
        for text in ("1 0 -1 1", "-1 0 0 -1", "0 -1 1 0", f"1 -{SIXTY} 0 1"):
            self.tell(f"table a {text}")
            self.assertEqual(self.tell("number a"), str(number_of(read_table(text))))
            self.assertEqual(self.tell("steady a"), str(steady_of(read_table(text))))
            self.refuse(NoWord, "spell a")

    def test_written_out(self):
        self.tell("table a 5 2 7 3", "word o none")
        for line, told in [
            ("number a", "2"), ("steady a", "-1"), ("spell a", "v 1 u 2 v 2"), ("spell o", "none"), ("number o", "0"),
            ("sign 3 7", "-1"), ("sign 2 7", "1"), ("sign 6 9", "0"), ("teeth 1 4", "1/8"), ("teeth 2 3", "-1/18"),
            ("teeth 2 5", "0"), ("twelve 1 4", "6"), ("twelve 2 3", "-2"), ("points 5 7", "3"), ("points -5 7", "-6"),
            ("shuffle 3 8", "-1"), ("shuffle 3 7", "-1"), ("parts 10 7 3 2", "18"), ("parts 4 3 -1 0", "-3"),
            ("parts 0 1 5 5", "0"), ("teeth 5 1", "0"), ("sign 0 1", "1"),
        ]:
            self.assertEqual(self.tell(line), told)

    def test_of_numbers(self):
        numbers = [1 - 10 ** 60, -3 ** 125, -7, 0, 1, 2, 3, 10, 35, 10 ** 59, 7 ** 70]
        moduli = [1, 3, 5, 9, 8, 14, 10 ** 60 - 1, 3 ** 125, 2 ** 199]
        for p, m in itertools.product(numbers, moduli):
            asks = {"sign": exchanged, "twelve": twelve, "points": points_under, "shuffle": shuffle_sign}
            for word, ask in asks.items():
                self.check_as_asked(f"{word} {p} {m}", lambda: str(ask(p, m)))
            self.check_as_asked(f"teeth {p} {m}", lambda: shown_fraction(tooth_sum(p, m)))
            for n in (-1, 0, 1, 10 ** 60 - 1):
                self.check_as_asked(f"parts {n} {m} {p} -5", lambda: str(whole_sum(n, m, p, -5)))

    def check_as_asked(self, line, ask):
        try:
            told = ask()
        except SawError as error:
            self.refuse(type(error), line)
        else:
            self.assertEqual(self.tell(line), told, line)


class Refusals(DeskTest):
    def test_no_line(self):
        self.tell("word a u 1", "word b v 1", "word c u 1", "undo")
        lines = [
            "", " ", "  ", "nothing", "a", "none", "u 1", "1 0 0 1", "~", "!", "names a", "names none", "undo a",
            "undo 1", "redo a", "undo undo", "drop", "drop a b", "drop 1", "show", "show a b", "number", "number 1",
            "number a b", "steady", "steady 1", "spell", "spell a b", "spell u 1", "table", "table a", "table a 1 0 0",
            "table 1 0 0 1", "table a 1 0 0 1 1", "table a b 1 0 0 1", "table a 1 0 0 b", "word", "word a", "word u 1",
            "word a u", "word a b", "let", "let a", "let a b", "let a together", "let a together b",
            "let a together a b a", "let a back", "let a back a b", "let a b together a", "let together a b",
            "let back a", "let a both a b", "let a apart a", "let a a b", "sign", "sign 3", "sign 3 7 1", "sign a 7",
            "sign a b", "teeth 1", "twelve 1", "points 5", "shuffle 3", "shuffle 3 8 1", "parts 1 2 3",
            "parts 1 2 3 4 5", "parts a 2 3 4", "number 3 7", "show 1", "names 1", "Names", "NAMES", "UNDO", "Show a",
            "show A", "SHOW a", "names~", "names;", "show a;", "show  a", " show a", "show a ", "names ", " names",
            "table a 1 0  0 1", "let a  back a", "undo ", " redo", "sign 3  7", "sign 3 7 ", "drop  a", "word a  none",
            "word  a none", "word a none ", "tables a 1 0 0 1", "x" * 4000, "1 " * 1999 + "1", "names " * 600,
            " " * 4000,
        ]
        for line in lines:
            self.refuse(NoLine, line)
        self.assertEqual(self.tell("redo"), "a b c")

    def test_what_is_no_text(self):
        for thing in (None, True, 0, 1, [], ["names"], ("names",)):
            self.refuse(NoLine, thing)

    def test_no_names_in_each_place(self):
        self.tell("word a u 1")
        for name in NO_NAMES:
            for line in [f"table {name} 1 0 0 1", f"word {name} u 1", f"word {name} none", f"let {name} together a a",
                         f"let a together {name} a", f"let a together a {name}", f"let {name} back a",
                         f"let a back {name}", f"drop {name}", f"show {name}", f"number {name}", f"steady {name}",
                         f"spell {name}"]:
                self.refuse(NoLine, line)

    def test_no_numbers_in_each_place(self):
        self.tell("word a u 1")
        for number in NO_NUMBERS:
            for form in ("table a N N N N", "sign N N", "teeth N N", "twelve N N", "points N N", "shuffle N N",
                         "parts N N N N"):
                words = form.split(" ")
                for place, word in enumerate(words):
                    if word == "N":
                        pieces = [number if k == place else piece.replace("N", "1") for k, piece in enumerate(words)]
                        self.refuse(NoLine, " ".join(pieces))

    def test_a_word_line_that_is_read_as_no_word(self):
        self.tell("word a u 1")
        for word in ["u", "u 0", "u -1", "u 01", "u 1 u 1", "u 1 v", "w 1", "1 u", "u 1 none", "none none", "None", "a",
                     "u " + SIXTY_ONE, "v 1 u " + SIXTY_ONE, "u +1", "u 1  v 1", "u 1/1", "1 0 0 1", "", "u -0"]:
            self.refuse(NoLine, f"word a {word}")
            self.refuse(NoLine, f"word b {word}")
        self.assertEqual(self.tell("undo"), "none")

    def test_no_name(self):
        self.tell("word a u 1")
        for line, name in [
            ("show b", "b"), ("number b", "b"), ("steady b", "b"), ("spell b", "b"), ("drop b", "b"),
            ("let b back b", "b"), ("let a back b", "b"), ("let b together a c", "c"), ("let b together c a", "c"),
            ("let b together c d", "c"), ("let b together d c", "d"), ("let a together b b", "b"),
            ("let abcdefgh together a abcdefgh", "abcdefgh"),
            ("show show", "show"), ("drop none", "none"), ("let a together together back", "together"),
        ]:
            self.refuse_name(name, line)
            self.refuse(NoName, line)
        self.assertEqual(self.tell("names"), "a")

    def test_a_name_is_over_and_back_again(self):
        self.tell("word a u 1", "drop a")
        self.refuse_name("a", "show a")
        self.tell("undo")
        self.assertEqual(self.tell("show a"), "1 1 0 1")
        self.tell("redo")
        self.refuse_name("a", "show a")

    def test_no_table(self):
        for line in ("table a 1 0 0 2", "table a 0 0 0 0", "table b 1 0 0 -1", f"table a {SIXTY} 0 0 {SIXTY}"):
            self.refuse(NoTable, line)
        self.assertEqual(self.tell("names"), "none")
        self.tell("table a 1 0 0 1")
        self.refuse(NoTable, "table a 2 0 0 1")
        self.assertEqual(self.tell("show a"), "1 0 0 1")

    def test_too_many_figures(self):
        self.tell(f"word a u {SIXTY}", "word b u 1", f"table m 1 -{SIXTY} 0 1", "table n 1 -1 0 1", "word v v 1")
        for line in ("let c together a b", "let c together b a", "let a together a a", "let c together m n",
                     "let m together n m", f"word c u {SIXTY} v 1", f"word a v 1 u {SIXTY} v 1 u 1",
                     "let c together a v", f"word c v {SIXTY} u {SIXTY}", "word c " + " ".join(["u 1 v 1"] * 480)):
            self.refuse(TooMany, line)
        self.assertEqual(self.tell("names"), "a b m n v")

    def test_just_sixty_figures(self):
        almost = "9" * 59 + "8"
        self.tell(f"word a u {almost}", "word b u 1", f"table m 1 -{almost} 0 1", "table n 1 -1 0 1")
        self.assertEqual(self.tell("let c together a b"), f"1 {SIXTY} 0 1")
        self.assertEqual(self.tell("let d together m n"), f"1 -{SIXTY} 0 1")
        self.assertEqual(self.tell("let e back c"), f"1 -{SIXTY} 0 1")
        self.assertEqual(self.tell("let f back d"), f"1 {SIXTY} 0 1")
        self.assertEqual(self.tell("let f together c d"), "1 0 0 1")
        self.assertEqual(self.tell(f"word g u {almost} v 1"), f"{SIXTY} {almost} 1 1")
        self.refuse(TooMany, "let c together c b")
        self.refuse(TooMany, f"word g u {SIXTY} v 1")
        self.assertEqual(self.tell("show c"), f"1 {SIXTY} 0 1")

    def test_each_place_too_long_by_itself(self):
        n = 10 ** 30 + 1
        half = 5 * 10 ** 59
        self.tell(f"table a {n} -1 1 0", f"table d 0 1 -1 {n}", f"table b 1 {half} 0 1", f"table c 1 0 {half} 1",
                  "table m -1 0 0 -1")
        self.tell("let na together m a", "let nb together m b", "let nc together m c", "let nd together m d")
        for place, name in enumerate("abcd"):
            for one, other in [(name, name), ("n" + name, name), (name, "n" + name), ("n" + name, "n" + name)]:
                table = together(read_table(self.tell(f"show {one}")), read_table(self.tell(f"show {other}")))
                places = table[0] + table[1]
                self.assertEqual([k for k in range(4) if len(str(abs(places[k]))) > 60], [place])
                self.refuse(TooMany, f"let x together {one} {other}")
        self.tell(f"table a {n - 1} -1 1 0")
        self.assertEqual(self.tell("let x together a a"), f"{SIXTY} -{n - 1} {n - 1} -1")

    def test_what_the_functions_refuse(self):
        for error, lines in [
            (NoCount, ["sign 1 0", "sign 1 -3", "sign 2 -2", "teeth 1 0", "twelve 1 -1", "points 1 0", "points 2 -2",
                       "shuffle 1 0", "shuffle 2 -2", "parts 1 0 1 1", "parts -1 1 1 1", "parts -1 0 1 1"]),
            (NotOdd, ["sign 1 2", "sign 2 4", "points 1 2", "points 2 2"]),
            (NotApart, ["shuffle 2 4", "shuffle 0 3", "shuffle 3 9", f"shuffle 3 {SIXTY}"]),
        ]:
            for line in lines:
                self.refuse(error, line)

    def test_no_line_ahead_of_all(self):
        self.refuse(NoLine, "let b together c D")
        self.refuse(NoLine, "drop b now")
        self.refuse(NoLine, "undo now")
        self.refuse(NoLine, "table a 1 0 0 " + SIXTY_ONE)
        self.refuse(NoLine, "sign 1 -0")
        self.refuse(NoLine, f"word c u {SIXTY} v {SIXTY} v 1")

    def test_no_name_ahead_of_too_many(self):
        self.tell(f"word a u {SIXTY}")
        self.refuse_name("b", "let c together a b")
        self.refuse_name("b", "let c together b a")
        self.refuse(TooMany, "let c together a a")


class Model:
    """Point 43 word for word: all that stood is kept as a whole, ahead of and behind each deed."""

    def __init__(self):
        self.states = [{}]
        self.now = 0

    def answer(self, line):
        words = line.split(" ")
        names = self.states[self.now]
        if words[0] in ("undo", "redo"):
            where = self.now + (1 if words[0] == "redo" else -1)
            if not 0 <= where < len(self.states):
                return NoDeed
            self.now = where
            return " ".join(sorted(self.states[where])) or "none"
        if words[0] == "names":
            return " ".join(sorted(names)) or "none"
        asked = {"show": words[1:], "drop": words[1:], "let": words[3:]}.get(words[0], [])
        if any(name not in names for name in asked):
            return NoName
        if words[0] == "show":
            return shown_table(names[words[1]])
        return self.do_deed(words, dict(names))

    def do_deed(self, words, names):
        if words[0] == "drop":
            names.pop(words[1])
        else:
            table = self.made(words, names)
            if words[0] != "table" and any(len(str(abs(place))) > 60 for place in table[0] + table[1]):
                return TooMany
            names[words[1]] = table
        self.states = self.states[:self.now + 1] + [names]
        self.now += 1
        return " ".join(sorted(names)) or "none" if words[0] == "drop" else shown_table(names[words[1]])

    def made(self, words, names):
        if words[0] == "table":
            return read_table(" ".join(words[2:]))
        if words[0] == "word":
            return table_of(read_word(" ".join(words[2:])))
        if words[2] == "back":
            return back_of(names[words[3]])
        return together(names[words[3]], names[words[4]])


class LongTalks(SoonTest):
    LINES = ["undo", "redo", "undo", "redo", "undo", "names", "show A", "drop A", "let A back A", "let A together A A",
             "let A together A A", "table A 5 -2 -7 3", "table A 1 0 0 1", "word A u 2 v 3", "word A none",
             "word A v 10000000000000000000000000 u 3"]

    def test_talks_by_the_model(self):
        chance = random.Random(43)
        seen = set()
        for talk in range(60):
            desk, model = Desk(), Model()
            for turn in range(120):
                line = "".join(chance.choice("abc") if sign == "A" else sign for sign in chance.choice(self.LINES))
                told = model.answer(line)
                if isinstance(told, str):
                    self.assertEqual(desk.tell(line), told, line)
                else:
                    seen.add(told)
                    with self.assertRaises(told):
                        desk.tell(line)
        self.assertEqual(seen, {NoDeed, NoName, TooMany})


if __name__ == "__main__":
    unittest.main()
