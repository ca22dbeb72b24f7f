"""Half rests: to which near number each k is brought, and how many go over (points 16 and 17)."""

from sawsign.checks import need_odd, need_to
from sawsign.floors import points_under
from sawsign.wholes import need_apart

MOST_RESTS = 200


def half_row(k, rest, m):
    if 2 * rest < m:
        return (k, rest, 1)
    return (k, m - rest, -1)


def half_rows(a, m):
    need_odd(m)
    need_to(MOST_RESTS, m)
    need_apart(a, m)
    return [half_row(k, a * k % m, m) for k in range(1, (m + 1) // 2)]


def overs_of(a, m):
    # Going over is what makes the floor of 2 a k / m one more than twice that of a k / m.
    return points_under(2 * a, m) - 2 * points_under(a, m)
