"""The sign of a over m by exchanging, and the sign of the shuffle that a makes (points 21 and 23)."""

from sawsign.checks import need_from, need_odd
from sawsign.wholes import need_apart


def row_behind(a, m, sign):
    if a < 0 or a >= m:
        return (a % m, m, sign)
    if a % 2 == 0:
        return (a // 2, m, -sign if m % 8 in (3, 5) else sign)
    return (m, a, -sign if a % 4 == 3 and m % 4 == 3 else sign)


def sign_rows(a, m):
    need_odd(m)
    row = (a, m, 1)
    rows = [row]
    while row[0] != 0:
        row = row_behind(row[0], row[1], row[2])
        rows.append(row)
    return rows


def exchanged(a, m):
    last = sign_rows(a, m)[-1]
    return last[2] if last[1] == 1 else 0


def shuffle_sign(a, m):
    need_from(1, m)
    need_apart(a, m)
    if m % 2 == 1:
        return exchanged(a, m)
    if m % 4 == 2:
        return 1
    return 1 if a % 4 == 1 else -1
