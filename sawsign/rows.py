"""Rows of signs: that of m, whether one multiplies, and two multiplied place by place (points 39 and 40)."""

from sawsign.checks import is_whole, need_odd, need_to
from sawsign.errors import NoRow
from sawsign.exchange import exchanged

MOST_SIGNS = 60


def is_sign_row(row):
    if not isinstance(row, tuple) or len(row) == 0:
        return False
    return all([is_whole(number) and -1 <= number <= 1 for number in row])


def need_sign_row(row):
    if not is_sign_row(row):
        raise NoRow("this is no row of signs")


def sign_row(m):
    need_odd(m)
    need_to(MOST_SIGNS, m)
    return tuple([exchanged(k, m) for k in range(m)])


def first_that_fails(row):
    """The first pair (j, k) that does not agree, None where there is none."""
    m = len(row)
    for j in range(m):
        for k in range(j, m):
            if row[j * k % m] != row[j] * row[k]:
                return (j, k)
    return None


def least_round(row):
    step = 1
    # A step of all places brings each to itself, so that there is an end.
    while row[step:] + row[:step] != row:
        step += 1
    return step


def verdict_of(row):
    need_sign_row(row)
    need_to(MOST_SIGNS, len(row))
    pair = first_that_fails(row)
    if pair is None:
        return ("multiplies", least_round(row))
    return ("fails", pair)


def multiplied(one, other):
    need_sign_row(one)
    need_sign_row(other)
    # Unlike lengths are refused ahead of too many places.
    if len(one) != len(other):
        raise NoRow("the two rows have not as many places")
    need_to(MOST_SIGNS, len(one))
    return tuple([one[place] * other[place] for place in range(len(one))])
