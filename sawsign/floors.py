"""Sums of whole parts, and the whole points under a line (points 13 to 15)."""

from sawsign.checks import need_from, need_odd, need_to

MOST_PARTS = 200


def parts_of(n, m, a, b):
    need_from(0, n)
    need_from(1, m)
    need_to(MOST_PARTS, n)
    return [(a * k + b) // m for k in range(n)]


def sum_rows(n, m, a, b):
    need_from(0, n)
    need_from(1, m)
    rows = []
    going = True
    while going:
        more = n * (n - 1) // 2 * (a // m) + n * (b // m)
        rows.append((n, m, a, b, more))
        slope = a % m
        end = slope * n + b % m
        going = end >= m
        # What is left lies under a line; counted by its heights, it is such a sum with a and m exchanged.
        n = end // m
        b = end % m
        a = m
        m = slope
    return rows


def whole_sum(n, m, a, b):
    return sum([row[4] for row in sum_rows(n, m, a, b)])


def points_under(a, m):
    need_odd(m)
    # The part for k = 0 is 0, so that the sum may begin there.
    return whole_sum((m + 1) // 2, m, a, 0)
