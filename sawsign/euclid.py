"""Euclid's steps, and parts folded to a fraction (points 8 and 9)."""

from sawsign.checks import need_from


def steps_of(a, m):
    need_from(1, m)
    steps = []
    high = a
    low = m
    while low != 0:
        rest = high % low
        steps.append((high // low, rest))
        high = low
        low = rest
    return steps


def folded(parts):
    need_from(1, len(parts))
    for part in parts[1:]:
        need_from(1, part)
    # Behind the last part stands nothing, so 1 / r is to be nought there: r begins as 1 / 0.
    # No step brings in a shared number, so the fraction is in lowest terms as it comes.
    top = 1
    bottom = 0
    for part in reversed(parts):
        above = part * top + bottom
        bottom = top
        top = above
    return (top, bottom)
