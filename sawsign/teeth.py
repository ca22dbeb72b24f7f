"""Teeth, the sums of their products, and the sign that these tell (points 26 to 33)."""

from sawsign.checks import need_from, need_odd, need_to
from sawsign.euclid import steps_of
from sawsign.fractions import fraction, plus, times
from sawsign.wholes import need_apart, shared, turned

MOST_TEETH = 200


def tooth(x):
    rest = x[0] % x[1]
    if rest == 0:
        return (0, 1)
    return fraction(2 * rest - x[1], 2 * x[1])


def teeth_of(a, m):
    need_from(1, m)
    need_to(MOST_TEETH, m)
    return [tooth(fraction(a * k, m)) for k in range(m)]


def pair_through(a, b, m):
    total = (0, 1)
    # The teeth for k = 0 are nought, so that the sum may begin there.
    for one, other in zip(teeth_of(a, m), teeth_of(b, m)):
        total = plus(total, times(one, other))
    return total


def twelve_apart(a, m):
    numbers = [m] + [step[1] for step in steps_of(a, m)]
    # The last two are 1 and 0, and by 1 every twelve is 0. From there on each is told by the one ahead of it:
    # taken 12 low high times, the exchange of point 30 is low t + high other = low low + high high + 1 - 3 low high,
    # t being the twelve of low, high and other that of high, low.
    told = 0
    for place in range(len(numbers) - 2, 0, -1):
        low = numbers[place]
        high = numbers[place - 1]
        told = (low * low + high * high + 1 - 3 * low * high - high * told) // low
    return told


def twelve(a, m):
    need_from(1, m)
    part = shared(a, m)
    return part * twelve_apart(a // part, m // part)


def tooth_sum(a, m):
    return fraction(twelve(a, m), 12 * m)


def pair_sum(a, b, m):
    need_from(1, m)
    # A number that divides all three makes the sum over the shorter round be gone through so often.
    often = shared(shared(a, b), m)
    a = a // often
    b = b // often
    m = m // often
    # A number that divides m and one of the two alone drops out: the teeth of the other one, taken at all k at which
    # that one has the same tooth, add up to one tooth (point 26).
    part = shared(a, m)
    a = a // part
    m = m // part
    part = shared(b, m)
    b = b // part
    m = m // part
    # Now a is apart from m, so that the k may be walked in the order that makes a k be 0, 1, .. by m.
    return times((often, 1), tooth_sum(b * turned(a, m), m))


def three_way(a, b, c):
    for number in (a, b, c):
        need_from(1, number)
    need_apart(a, b)
    need_apart(b, c)
    need_apart(c, a)
    return (pair_sum(b, c, a), pair_sum(c, a, b), pair_sum(a, b, c))


def sign_by_teeth(a, m):
    need_odd(m)
    need_apart(a, m)
    return 1 if (twelve(a, m) - m - 1) % 8 == 6 else -1
