"""What the tests share: numbers of 130 figures, tables, and a bound on how long an answer may take."""

import itertools
import math
import signal
import unittest
from fractions import Fraction

# Each has 130 figures, the most that may be handed in.
LEAST_LONG = 10 ** 129
GREATEST_LONG = 10 ** 130 - 1
THREES = 3 ** 271
SEVENS = 7 ** 153
LONG_NUMBERS = [LEAST_LONG, GREATEST_LONG, THREES, SEVENS]

# Things that a looker may be handed, and that are no whole numbers.
NO_WHOLES = [True, False, None, "", "0", "1", "zero", [], [0], [1, 2], (), (0,), (1, 2), [[0]], ((0,),), (True,)]


class TooSlow(Exception):
    pass


def stop_slow_test(signum, frame):
    raise TooSlow("there was no answer within the time")


class SoonTest(unittest.TestCase):
    """Tests that fail, and do not hang, where an answer is not told soon."""

    def setUp(self):
        before = signal.signal(signal.SIGALRM, stop_slow_test)
        self.addCleanup(signal.signal, signal.SIGALRM, before)
        # The alarm comes again, as a subTest that was stopped goes on with the next one.
        signal.setitimer(signal.ITIMER_REAL, 30, 1)
        self.addCleanup(signal.setitimer, signal.ITIMER_REAL, 0)


def long_fibonacci_pair():
    """Two neighbours below 10 ** 130 for which Euclid takes as many steps as it can."""
    low, high = 1, 1
    while low + high < 10 ** 130:
        low, high = high, low + high
    return low, high


def refused_alike(case, error, ask, *things):
    """Asks twice, as what was refused may be asked again and is refused as before."""
    for round_ in range(2):
        with case.subTest(things=things, round=round_):
            with case.assertRaises(error) as caught:
                ask(*things)
            case.assertIs(type(caught.exception), error)


def pair_of(number):
    """What Python's own fractions tell, as a tuple (top, bottom)."""
    number = Fraction(number)
    return (number.numerator, number.denominator)


def tooth_by_words(x):
    """Point 26 word for word, of one of Python's own fractions."""
    return Fraction(0) if x.denominator == 1 else x - math.floor(x) - Fraction(1, 2)


def pair_by_words(a, b, m):
    """Point 28 word for word."""
    teeth = [tooth_by_words(Fraction(k, m)) for k in range(m)]
    return sum((teeth[a * k % m] * teeth[b * k % m] for k in range(1, m)), Fraction(0))


def small_tables(most):
    """All tables whose places lie from -most to most."""
    numbers = range(-most, most + 1)
    return [((a, b), (c, d)) for a, b, c, d in itertools.product(numbers, repeat=4) if a * d - b * c == 1]


def table_above(c, d, times=0):
    """A table with this lower row, c not 0; times tells how often the lower row is added to the upper one."""
    a = pow(d, -1, abs(c)) + times * c
    return ((a, (a * d - 1) // c), (c, d))


def long_tables():
    """Tables with places of 130 figures, of either sign."""
    tables = [((1, GREATEST_LONG), (0, 1)), ((-1, LEAST_LONG), (0, -1)), ((1, 0), (-GREATEST_LONG, 1))]
    pairs = [(THREES, SEVENS), (SEVENS, THREES), (GREATEST_LONG, LEAST_LONG), long_fibonacci_pair()]
    for c, d in pairs:
        tables += [table_above(c, d), table_above(-c, d), table_above(c, -d, -1), table_above(-c, -d)]
    return tables


# Of any kind; in each place, and in place of the whole.
NO_TABLES = [
    ((1, 0), (0, 2)), ((1, 0), (0, -1)), ((0, 0), (0, 0)), ((1, 1), (1, 1)), ((0, 1), (1, 0)), ((2, 1), (1, 2)),
    ((THREES, SEVENS), (SEVENS, THREES)), ((GREATEST_LONG, 0), (0, GREATEST_LONG)),
    [(1, 0), (0, 1)], ([1, 0], [0, 1]), ([1, 0], (0, 1)), ((1, 0), [0, 1]), [[1, 0], [0, 1]], (1, 0, 0, 1),
    [1, 0, 0, 1], ((1, 0),), ((1, 0), (0, 1), (0, 0)), ((1, 0), (0, 1), ()), ((1, 0, 0), (0, 1)), ((1, 0), (0, 1, 0)),
    ((1,), (0, 1)), ((1, 0), (1,)), ((), ()), (), [], ((1, 0), 1), (1, (0, 1)), ((1, 0), None), (None, (0, 1)),
    ("10", "01"), ("10", (0, 1)), ((1, 0), "01"), "10", "1001", "1 0 0 1", "", None, True, False, 0, 1, -1,
    GREATEST_LONG, (((1, 0), (0, 1)),), [((1, 0), (0, 1))],
    ((1, 0), (0, 1)) * 1000, ((1,) * 1000, (0,) * 1000), [((1, 0), (0, 1))] * 1000,
] + [
    ((thing if place == 0 else 1, thing if place == 1 else 0), (thing if place == 2 else 0, thing if place == 3 else 1))
    for thing in NO_WHOLES for place in range(4)
] + [(thing, (0, 2)) for thing in NO_WHOLES] + [((2, 0), thing) for thing in NO_WHOLES] + NO_WHOLES


def alternating(oftens, letters="uv"):
    """The word whose letters take turns, each as often as told."""
    return [(letters[place % 2], often) for place, often in enumerate(oftens)]


def short_words(most_runs, most_often):
    """All words of so many runs at most, each letter taken so often at most."""
    words = [[]]
    for runs in range(1, most_runs + 1):
        for oftens in itertools.product(range(1, most_often + 1), repeat=runs):
            words += [alternating(oftens), alternating(oftens, "vu")]
    return words


# Of any kind; as a run in each place, and in place of the whole.
NO_RUNS = [
    ("w", 1), ("U", 1), ("", 1), ("uv", 1), ("u ", 1), ("u", 0), ("v", -1), ("u", -GREATEST_LONG), ("u", "1"),
    ("u", None), ("u", True), ("v", False), ("u", [1]), ("u", (1,)), (1, "u"), (1, 1), (None, 1), (True, 1), (["u"], 1),
    (("u",), 1), ["u", 1], ("u",), ("u", 1, 1), ("u", 1, "v", 1), (), "u1", "u", "u 1", (("u", 1),), [("u", 1)],
] + NO_WHOLES + [0, 1, GREATEST_LONG]
NO_WORDS = [
    [("u", 1), ("u", 1)], [("v", 2), ("v", 1)], [("u", 1), ("v", 1), ("v", 1)], [("v", 1), ("u", 1), ("u", 5)],
    alternating([1] * 400) + [("v", 1)], alternating([1] * 399 + [0]), [("u", 1)] * 400, (), (("u", 1),),
    (("u", 1), ("v", 1)), ("u", 1), ["u", 1], "u 1", "", "none", "uv", None, True, False, 0, 1, -3, GREATEST_LONG,
    [[]], [()], [None], [[("u", 1)]], ((1, 0), (0, 1)), [None] * 1000,
] + [[run] for run in NO_RUNS] + [[("v", 2), run] for run in NO_RUNS] + [[run, ("v", 2)] for run in NO_RUNS]


def least_root(p, parts):
    for root in range(2, 1000):
        if pow(root, p - 1, p) == 1 and all(pow(root, (p - 1) // q, p) != 1 for q, often in parts):
            return root
    raise AssertionError(f"{p} has no small root")


def trial_divisors(number):
    """The primes that divide a number, each once; slow but for numbers with small primes alone."""
    primes = []
    q = 2
    while number > 1:
        if number % q == 0:
            primes.append(q)
            while number % q == 0:
                number //= q
        q += 1
    return primes


def add_row(rows, p):
    """Adds the tuple of p, and those it needs, where p - 1 has but small primes and those of the rows."""
    known = [row[0] for row in rows]
    left = p - 1
    for q in known:
        while left % q == 0:
            left //= q
    for q in trial_divisors(left):
        if q != 2 and q not in known:
            add_row(rows, q)
    parts = []
    for q in sorted(set([2] + [row[0] for row in rows])):
        often = 0
        while (p - 1) % q ** (often + 1) == 0:
            often += 1
        if often > 0:
            parts.append((q, often))
    rows.append((p, least_root(p, parts), parts))


def long_paper():
    """A paper that holds for a prime of 130 figures, step by step from small primes; the prime is its last p."""
    rows = []
    add_row(rows, 3)
    chain = [3]
    for h in (1, 15, 35, 26, 2, 281):
        chain.append(2 * h * chain[-1] ** 2 + 1)
        add_row(rows, chain[-1])
    add_row(rows, 2 * 2100 * chain[2] * chain[3] * chain[4] * chain[6] + 1)
    return rows


def twos_paper():
    """A paper that holds for a prime p of 130 figures, its last one, where 2 divides p - 1 421 times."""
    rows = []
    add_row(rows, 393 * 2 ** 421 + 1)
    return rows
