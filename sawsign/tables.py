"""Tables of two by two: whether one is, two together, the back table, and the numbers told of one (points 34 to 36)."""

from sawsign.checks import is_pair_of_wholes
from sawsign.errors import NoTable
from sawsign.teeth import twelve


def is_table(table):
    if not isinstance(table, tuple) or len(table) != 2:
        return False
    if not is_pair_of_wholes(table[0]) or not is_pair_of_wholes(table[1]):
        return False
    return table[0][0] * table[1][1] - table[0][1] * table[1][0] == 1


def need_table(table):
    if not is_table(table):
        raise NoTable("this is no table")


def row_together(row, table):
    return (row[0] * table[0][0] + row[1] * table[1][0], row[0] * table[0][1] + row[1] * table[1][1])


def together(one, other):
    need_table(one)
    need_table(other)
    return (row_together(one[0], other), row_together(one[1], other))


def back_of(table):
    need_table(table)
    return ((table[1][1], -table[0][1]), (-table[1][0], table[0][0]))


def sign_of_whole(number):
    if number == 0:
        return 0
    return 1 if number > 0 else -1


def number_of(table):
    need_table(table)
    c = table[1][0]
    d = table[1][1]
    if c == 0:
        return table[0][1] * d
    # There is never a rest: it is known that the number is whole.
    return (table[0][0] + d - twelve(d, abs(c))) // c


def steady_of(table):
    number = number_of(table)
    return number - 3 * sign_of_whole(table[1][0] * (table[0][0] + table[1][1]))
