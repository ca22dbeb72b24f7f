"""Words of the letters u and v: their tables, the word of a table, and what is counted in one (points 37 and 38)."""

from sawsign.checks import is_whole
from sawsign.errors import NoWord
from sawsign.tables import need_table

OWN_TABLE = ((1, 0), (0, 1))


def is_run(thing):
    if not isinstance(thing, tuple) or len(thing) != 2:
        return False
    return thing[0] in ("u", "v") and is_whole(thing[1]) and thing[1] >= 1


def is_word(word):
    if not isinstance(word, list) or not all([is_run(run) for run in word]):
        return False
    return all([word[place - 1][0] != word[place][0] for place in range(1, len(word))])


def need_word(word):
    if not is_word(word):
        raise NoWord("this is no word")


def table_of(word):
    need_word(word)
    a = 1
    b = 0
    c = 0
    d = 1
    # A letter taken often times adds a column that often to the other one: so a long run is one step.
    for run in word:
        if run[0] == "u":
            b += run[1] * a
            d += run[1] * c
        else:
            a += run[1] * b
            c += run[1] * d
    return ((a, b), (c, d))


def times_within(row, other):
    """How often the row can be taken off the other one with no place of it coming below 0."""
    return min([other[place] // row[place] for place in (0, 1) if row[place] > 0])


def taken_off(row, other, often):
    return (other[0] - often * row[0], other[1] - often * row[1])


def word_of(table):
    need_table(table)
    upper = table[0]
    lower = table[1]
    if min(upper[0], upper[1], lower[0], lower[1]) < 0:
        raise NoWord("a place of the table is below 0")
    word = []
    # A word that begins with u has the lower row within the upper one, one that begins with v the other way round;
    # taken off as often as can be, the first run is gone.
    while (upper, lower) != OWN_TABLE:
        often = times_within(lower, upper)
        if often > 0:
            upper = taken_off(lower, upper, often)
            word.append(("u", often))
        else:
            often = times_within(upper, lower)
            lower = taken_off(upper, lower, often)
            word.append(("v", often))
    return word


def counts_of(word):
    need_word(word)
    return (sum([run[1] for run in word if run[0] == "u"]), sum([run[1] for run in word if run[0] == "v"]))
