"""Roots by a prime that has a paper (point 20)."""

from sawsign.errors import NoPaper
from sawsign.papers import sees_paper
from sawsign.wholes import power_by


def root_in(rows, p):
    return [row[1] for row in rows if row[0] == p][0]


def squared(number, often, p):
    for turn in range(often):
        number = number * number % p
    return number


def squarings_to_one(number, p):
    often = 0
    while number != 1:
        number = number * number % p
        often += 1
    return often


def square_root(a, p, generator):
    odd = p - 1
    twos = 0
    while odd % 2 == 0:
        odd = odd // 2
        twos += 1
    root = power_by(a, (odd + 1) // 2, p)
    # The square of root is always a taken off times. Each turn brings off to 1 by fewer squarings;
    # turner comes to 1 by just so many squarings as there are twos, so that some power of it is what is missing.
    off = power_by(a, odd, p)
    turner = power_by(generator, odd, p)
    while off != 1:
        often = squarings_to_one(off, p)
        step = squared(turner, twos - often - 1, p)
        root = root * step % p
        turner = step * step % p
        off = off * turner % p
        twos = often
    return root


def root_by(rows, p, a):
    if not sees_paper(rows, p):
        raise NoPaper("this is no paper that holds for p")
    rest = a % p
    if rest == 0 or p == 2:
        return ("root", rest)
    z = power_by(rest, (p - 1) // 2, p)
    if z != 1:
        return ("none", z)
    root = square_root(rest, p, root_in(rows, p))
    return ("root", min(root, p - root))
