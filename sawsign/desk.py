"""The desk, which keeps tables by names and answers lines (points 42 to 45)."""

from sawsign.checks import need_to
from sawsign.errors import NoDeed, NoLine, NoName, NoText
from sawsign.exchange import exchanged, shuffle_sign
from sawsign.floors import points_under, whole_sum
from sawsign.tables import back_of, number_of, steady_of, together
from sawsign.teeth import tooth_sum, twelve
from sawsign.texts import is_number, read_table, read_word, shown_fraction, shown_table, shown_word
from sawsign.words import table_of, word_of

MOST_LETTERS = 8
LETTERS = "abcdefghijklmnopqrstuvwxyz"
NO_NAMES = "none"

# KNOWN is a name that is to stand for a table, NAME one that need not; what is not in capitals stands there as it is.
FORMS = (
    ("table", "NAME", "NUMBER", "NUMBER", "NUMBER", "NUMBER"),
    ("let", "NAME", "together", "KNOWN", "KNOWN"),
    ("let", "NAME", "back", "KNOWN"),
    ("drop", "KNOWN"),
    ("undo",),
    ("redo",),
    ("names",),
    ("show", "KNOWN"),
    ("number", "KNOWN"),
    ("steady", "KNOWN"),
    ("spell", "KNOWN"),
    ("sign", "NUMBER", "NUMBER"),
    ("teeth", "NUMBER", "NUMBER"),
    ("twelve", "NUMBER", "NUMBER"),
    ("points", "NUMBER", "NUMBER"),
    ("shuffle", "NUMBER", "NUMBER"),
    ("parts", "NUMBER", "NUMBER", "NUMBER", "NUMBER"),
)
# Of a word line only the first two words have a form; how many there are behind them hangs on the word.
WORD_FORM = ("word", "NAME")


def is_name(piece):
    return 1 <= len(piece) <= MOST_LETTERS and all([letter in LETTERS for letter in piece])


def piece_fits(kind, piece):
    if kind == "NUMBER":
        return is_number(piece)
    if kind in ("NAME", "KNOWN"):
        return is_name(piece)
    return piece == kind


def has_form(pieces, form):
    return len(pieces) == len(form) and all([piece_fits(kind, piece) for kind, piece in zip(form, pieces)])


def word_behind(pieces):
    try:
        return read_word(" ".join(pieces[2:]))
    except NoText:
        raise NoLine("the words behind the name are read as no word") from None


def form_of(pieces):
    if has_form(pieces[:2], WORD_FORM):
        word_behind(pieces)
        return WORD_FORM
    for form in FORMS:
        if has_form(pieces, form):
            return form
    raise NoLine("this is none of the lines")


def need_short_places(table):
    for number in table[0] + table[1]:
        need_to(10 ** 60 - 1, abs(number))


def told_of_table(ask, table):
    if ask == "show":
        return shown_table(table)
    if ask == "number":
        return str(number_of(table))
    if ask == "steady":
        return str(steady_of(table))
    return shown_word(word_of(table))


def told_of_numbers(ask, numbers):
    if ask == "parts":
        return str(whole_sum(numbers[0], numbers[1], numbers[2], numbers[3]))
    p = numbers[0]
    m = numbers[1]
    if ask == "sign":
        return str(exchanged(p, m))
    if ask == "teeth":
        return shown_fraction(tooth_sum(p, m))
    if ask == "twelve":
        return str(twelve(p, m))
    if ask == "points":
        return str(points_under(p, m))
    return str(shuffle_sign(p, m))


class Desk:
    def __init__(self):
        self.tables = {}
        # A deed is (name, ahead, behind): the tables that the name stood for, None where it stood for nothing.
        self.done = []
        self.taken_back = []

    def tell(self, line):
        pieces = line.split(" ") if isinstance(line, str) else []
        form = form_of(pieces)
        self.need_known(form, pieces)
        first = pieces[0]
        if first in ("table", "word", "let"):
            table = self.new_table(pieces)
            self.do_deed(pieces[1], table)
            return shown_table(table)
        if first == "drop":
            self.do_deed(pieces[1], None)
        if first == "undo":
            self.undo()
        if first == "redo":
            self.redo()
        if first in ("drop", "undo", "redo", "names"):
            return self.shown_names()
        if "KNOWN" in form:
            return told_of_table(first, self.tables[pieces[1]])
        return told_of_numbers(first, [int(piece) for piece in pieces[1:]])

    def need_known(self, form, pieces):
        for kind, piece in zip(form, pieces):
            if kind == "KNOWN" and piece not in self.tables:
                raise NoName(piece)

    def new_table(self, pieces):
        if pieces[0] == "table":
            return read_table(" ".join(pieces[2:]))
        if pieces[0] == "word":
            table = table_of(word_behind(pieces))
        elif pieces[2] == "together":
            table = together(self.tables[pieces[3]], self.tables[pieces[4]])
        else:
            table = back_of(self.tables[pieces[3]])
        need_short_places(table)
        return table

    def do_deed(self, name, table):
        self.done.append((name, self.tables.get(name), table))
        self.taken_back = []
        self.keep(name, table)

    def undo(self):
        if self.done == []:
            raise NoDeed("there is no deed to undo")
        deed = self.done.pop()
        self.taken_back.append(deed)
        self.keep(deed[0], deed[1])

    def redo(self):
        if self.taken_back == []:
            raise NoDeed("there is no deed to do again")
        deed = self.taken_back.pop()
        self.done.append(deed)
        self.keep(deed[0], deed[2])

    def keep(self, name, table):
        if table is None:
            self.tables.pop(name)
        else:
            self.tables[name] = table

    def shown_names(self):
        if len(self.tables) == 0:
            return NO_NAMES
        return " ".join(sorted(self.tables))
