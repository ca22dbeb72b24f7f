"""The sign of a over m by other roads: by rounds, by halves and by points (point 24)."""

from sawsign.checks import need_odd
from sawsign.floors import points_under
from sawsign.halves import half_rows
from sawsign.shuffles import shuffle_of, sign_of
from sawsign.wholes import need_apart


def sign_by_rounds(a, m):
    need_odd(m)
    return sign_of(shuffle_of(a, m))


def sign_by_halves(a, m):
    sign = 1
    for row in half_rows(a, m):
        sign = sign * row[2]
    return sign


def sign_by_points(a, m):
    need_odd(m)
    need_apart(a, m)
    rest = a % m
    # Points tell the sign for odd numbers alone, and m is odd: so one of rest and rest + m is.
    odd = rest if rest % 2 == 1 else rest + m
    return 1 if points_under(odd, m) % 2 == 0 else -1
