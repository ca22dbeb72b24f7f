import copy
import unittest

from helper import GREATEST_LONG, LONG_NUMBERS, NO_WHOLES, SEVENS, THREES
from helper import SoonTest, long_paper, refused_alike, twos_paper
from sawsign.errors import NoPaper
from sawsign.papers import prime_paper
from sawsign.roots import root_by

SMALL_PRIMES = [2, 3, 5, 7, 11, 13, 17, 19, 23, 29, 31, 37, 41, 73, 97, 193, 257]
OF_3 = (3, 2, [(2, 1)])
OF_7 = (7, 3, [(2, 1), (3, 1)])


def root_gone_through(p, a):
    for r in range(p):
        if (r * r - a) % p == 0:
            return ("root", r)
    return ("none", a ** ((p - 1) // 2) % p)


class RootBy(SoonTest):
    def test_written_out(self):
        rows = prime_paper(7)
        self.assertEqual(root_by(rows, 7, 2), ("root", 3))
        self.assertEqual(root_by(rows, 7, 4), ("root", 2))
        self.assertEqual(root_by(rows, 7, 3), ("none", 6))
        self.assertEqual(root_by(rows, 7, -1), ("none", 6))
        self.assertEqual(root_by(rows, 7, 14), ("root", 0))

    def test_small_primes_gone_through(self):
        for p in SMALL_PRIMES:
            rows = prime_paper(p)
            for a in range(-p - 2, 2 * p + 3):
                told = root_by(rows, p, a)
                self.assertIs(type(told), tuple)
                self.assertEqual(told, root_gone_through(p, a % p), (p, a))

    def test_by_two(self):
        for rows in ([], [OF_3], [OF_3, OF_7]):
            for a in [0, 2, -2, 10]:
                self.assertEqual(root_by(rows, 2, a), ("root", 0))
            for a in [1, -1, 3, GREATEST_LONG]:
                self.assertEqual(root_by(rows, 2, a), ("root", 1))

    def test_nought(self):
        for p in SMALL_PRIMES:
            for a in (0, p, -p, 10 ** 100 * p):
                self.assertEqual(root_by(prime_paper(p), p, a), ("root", 0))

    def test_long_a(self):
        for p in (3, 41, 193, 65537, 999983):
            rows = prime_paper(p)
            for a in LONG_NUMBERS:
                for signed in (a, -a):
                    self.assertEqual(root_by(rows, p, signed), root_by(rows, p, signed % p))
                    kind, number = root_by(rows, p, signed)
                    if kind == "root":
                        self.assertEqual((number * number - signed) % p, 0)
                        self.assertLessEqual(2 * number, p)
                    else:
                        self.assertEqual(number, p - 1)

    def test_fermat_prime(self):
        rows = prime_paper(65537)
        for a in range(1, 200):
            squares = root_by(rows, 65537, a * a)
            self.assertEqual(squares, ("root", a))
            self.assertEqual(root_by(rows, 65537, 3 * a * a), ("none", 65536))

    def check_great(self, rows):
        p, g, parts = rows[-1]
        for r in [1, 2, 3, 10 ** 60 + 7, THREES % p, SEVENS % p, p - 1, (p - 1) // 2]:
            lesser = min(r, p - r)
            self.assertEqual(root_by(rows, p, r * r % p), ("root", lesser))
            self.assertEqual(root_by(rows, p, r * r % p - p), ("root", lesser))
            self.assertEqual(root_by(rows, p, g * r * r % p), ("none", p - 1))
        self.assertEqual(root_by(rows, p, 0), ("root", 0))

    def test_great_primes(self):
        self.check_great(long_paper())
        self.check_great(twos_paper())

    def test_great_prime_where_most_squarings_are_due(self):
        rows = twos_paper()
        p, g, parts = rows[-1]
        for power in (2, 2 * 393, 2 * 393 * (2 ** 419 - 1), 2 ** 200 * 393, p - 1 - 2 * 393):
            a = pow(g, power, p)
            kind, r = root_by(rows, p, a)
            self.assertEqual(kind, "root")
            self.assertEqual(r * r % p, a)
            self.assertLess(2 * r, p)

    def test_a_p_ahead_in_the_paper(self):
        rows = prime_paper(999983)
        for p in [row[0] for row in rows]:
            for a in (2, 3, 5, 6):
                self.assertEqual(root_by(rows, p, a)[0], root_gone_through(p, a)[0])
                self.assertEqual(root_by(rows, p, a), root_by(prime_paper(p), p, a))

    def test_each_root_of_the_paper_serves(self):
        for root in (-1, -4, 3, 5, 10, 17, 10 ** 100 * 7 + 3):
            if root % 7 in (3, 5):
                rows = [OF_3, (7, root, [(3, 1), (2, 1)])]
                for a in range(7):
                    self.assertEqual(root_by(rows, 7, a), root_gone_through(7, a))

    def test_what_is_no_paper_that_holds(self):
        papers = [
            [], [OF_3], [OF_7], [OF_7, OF_3], [OF_3, (7, 2, [(2, 1), (3, 1)])], [OF_3, (7, 3, [(2, 1)])],
            [OF_3, (7, 3, [(2, 1), (3, True)])], [OF_3, OF_7, None], (OF_3, OF_7), OF_7, [OF_3, list(OF_7)],
            [OF_3, (7, 3, ((2, 1), (3, 1)))], [OF_3, OF_7 + (1,)], [OF_3, (7, 3)], [[OF_3, OF_7]],
        ]
        for rows in papers + NO_WHOLES + [0, 7, -1, "paper", THREES]:
            kept = copy.deepcopy(rows)
            for a in (0, 2, 3, -GREATEST_LONG):
                refused_alike(self, NoPaper, root_by, rows, 7, a)
            self.assertEqual(rows, kept)

    def test_a_p_for_which_the_paper_does_not_hold(self):
        rows = [OF_3, OF_7]
        for p in (-7, -3, -2, -1, 0, 1, 4, 5, 9, 14, 21, THREES, -GREATEST_LONG):
            refused_alike(self, NoPaper, root_by, rows, p, 2)
            refused_alike(self, NoPaper, root_by, [], p, 2)
        refused_alike(self, NoPaper, root_by, [], 3, 1)

    def test_nothing_handed_in_is_changed(self):
        rows = long_paper()
        kept = copy.deepcopy(rows)
        told = root_by(rows, rows[-1][0], 4)
        self.assertEqual(rows, kept)
        rows.clear()
        self.assertEqual(told, ("root", 2))

    def test_answered_as_before_behind_refusals(self):
        refused_alike(self, NoPaper, root_by, [OF_7], 7, 2)
        self.assertEqual(root_by([OF_3, OF_7], 7, 2), ("root", 3))


if __name__ == "__main__":
    unittest.main()
