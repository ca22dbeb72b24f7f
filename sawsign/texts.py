"""Fractions, tables and words written as texts, and read of texts (point 41)."""

from sawsign.errors import NoText
from sawsign.fractions import fraction
from sawsign.tables import need_table
from sawsign.words import is_word, need_word

MOST_FIGURES = 60
FIGURES = "0123456789"
EMPTY_WORD = "none"


def is_number(text):
    """Whether this is a whole number as it is written, of at most sixty figures."""
    figures = text[1:] if text.startswith("-") else text
    if figures == "" or len(figures) > MOST_FIGURES or not all([sign in FIGURES for sign in figures]):
        return False
    return text == "0" or not figures.startswith("0")


def shown_fraction(x):
    top = x[0]
    bottom = x[1]
    return str(top) if bottom == 1 else f"{top}/{bottom}"


def shown_table(table):
    need_table(table)
    return " ".join([str(number) for number in table[0] + table[1]])


def shown_run(run):
    letter = run[0]
    often = run[1]
    return f"{letter} {often}"


def shown_word(word):
    need_word(word)
    if word == []:
        return EMPTY_WORD
    return " ".join([shown_run(run) for run in word])


def need_text(holds):
    if not holds:
        raise NoText("this text is not written so")


def read_numbers(pieces):
    need_text(all([is_number(piece) for piece in pieces]))
    return [int(piece) for piece in pieces]


def read_fraction(text):
    need_text(isinstance(text, str))
    numbers = read_numbers(text.split("/"))
    if len(numbers) == 1:
        return (numbers[0], 1)
    need_text(len(numbers) == 2 and numbers[1] >= 1)
    return fraction(numbers[0], numbers[1])


def read_table(text):
    need_text(isinstance(text, str))
    numbers = read_numbers(text.split(" "))
    need_text(len(numbers) == 4)
    table = ((numbers[0], numbers[1]), (numbers[2], numbers[3]))
    need_table(table)
    return table


def read_word(text):
    need_text(isinstance(text, str))
    if text == EMPTY_WORD:
        return []
    pieces = text.split(" ")
    letters = pieces[0::2]
    numbers = read_numbers(pieces[1::2])
    need_text(len(letters) == len(numbers))
    word = [(letters[place], numbers[place]) for place in range(len(letters))]
    need_text(is_word(word))
    return word
