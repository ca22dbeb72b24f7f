"""What the tests share: numbers of 130 figures, and a bound on how long an answer may take."""

import signal
import unittest

# Each has 130 figures, the most that may be handed in.
LEAST_LONG = 10 ** 129
GREATEST_LONG = 10 ** 130 - 1
THREES = 3 ** 271
SEVENS = 7 ** 153
LONG_NUMBERS = [LEAST_LONG, GREATEST_LONG, THREES, SEVENS]

# Things that a looker may be handed, and that are no whole numbers.
NO_WHOLES = [True, False, None, "", "0", "1", "zero", [], [0], [1, 2], (), (0,), (1, 2), [[0]], ((0,),), (True,)]


class TooSlow(Exception):
    pass


def stop_slow_test(signum, frame):
    raise TooSlow("there was no answer within the time")


class SoonTest(unittest.TestCase):
    """Tests that fail, and do not hang, where an answer is not told soon."""

    def setUp(self):
        before = signal.signal(signal.SIGALRM, stop_slow_test)
        self.addCleanup(signal.signal, signal.SIGALRM, before)
        # The alarm comes again, as a subTest that was stopped goes on with the next one.
        signal.setitimer(signal.ITIMER_REAL, 30, 1)
        self.addCleanup(signal.setitimer, signal.ITIMER_REAL, 0)


def long_fibonacci_pair():
    """Two neighbours below 10 ** 130 for which Euclid takes as many steps as it can."""
    low, high = 1, 1
    while low + high < 10 ** 130:
        low, high = high, low + high
    return low, high


def refused_alike(case, error, ask, *things):
    """Asks twice, as what was refused may be asked again and is refused as before."""
    for round_ in range(2):
        with case.subTest(things=things, round=round_):
            with case.assertRaises(error) as caught:
                ask(*things)
            case.assertIs(type(caught.exception), error)
