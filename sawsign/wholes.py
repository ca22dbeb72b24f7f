"""Whole numbers: the shared number of two, turning over and powers by m (point 7)."""

from sawsign.checks import need_from
from sawsign.errors import NotApart


def shared(a, b):
    high = abs(a)
    low = abs(b)
    while low != 0:
        rest = high % low
        high = low
        low = rest
    return high


def need_apart(a, m):
    if shared(a, m) != 1:
        raise NotApart("a and m share a number above 1")


def turned(a, m):
    need_from(1, m)
    high = m
    low = a % m
    # By m, high stays a taken high_times and low stays a taken low_times:
    # so where high comes down to 1, high_times is what turns a over.
    high_times = 0
    low_times = 1
    while low != 0:
        part = high // low
        rest = high - part * low
        rest_times = high_times - part * low_times
        high = low
        low = rest
        high_times = low_times
        low_times = rest_times
    if high != 1:
        raise NotApart("a and m share a number above 1")
    return high_times % m


def power_by(a, k, m):
    need_from(0, k)
    need_from(1, m)
    # Even the product of no numbers is to be a rest by m: by 1 it is 0.
    product = 1 % m
    square = a % m
    left = k
    while left > 0:
        if left % 2 == 1:
            product = product * square % m
        square = square * square % m
        left = left // 2
    return product
