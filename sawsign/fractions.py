"""Fractions in lowest terms: made of two numbers, added, taken off, multiplied and divided (point 25)."""

from sawsign.errors import NoFraction
from sawsign.wholes import shared


def need_bottom(bottom):
    if bottom == 0:
        raise NoFraction("a bottom is 0")


def fraction(top, bottom):
    need_bottom(bottom)
    # Taken with the sign of the bottom, what is divided out leaves a bottom above 0.
    part = shared(top, bottom) if bottom > 0 else -shared(top, bottom)
    return (top // part, bottom // part)


def plus(x, y):
    return fraction(x[0] * y[1] + y[0] * x[1], x[1] * y[1])


def minus(x, y):
    return fraction(x[0] * y[1] - y[0] * x[1], x[1] * y[1])


def times(x, y):
    return fraction(x[0] * y[0], x[1] * y[1])


def over(x, y):
    # Turned over, a bottom of 0 would pass for a top: the others hand theirs on as a bottom.
    need_bottom(y[1])
    return fraction(x[0] * y[1], x[1] * y[0])
