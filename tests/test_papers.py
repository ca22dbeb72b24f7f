import copy
import unittest

from helper import GREATEST_LONG, LEAST_LONG, LONG_NUMBERS, NO_WHOLES, SEVENS, THREES
from helper import SoonTest, long_paper, refused_alike, trial_divisors, twos_paper
from sawsign.errors import NoPrime, TooMany
from sawsign.papers import prime_paper, sees_paper

OF_3 = (3, 2, [(2, 1)])
OF_5 = (5, 2, [(2, 2)])
OF_7 = (7, 3, [(2, 1), (3, 1)])
OF_13 = (13, 2, [(2, 2), (3, 1)])
OF_31 = (31, 3, [(2, 1), (3, 1), (5, 1)])
BOOK = [OF_3, OF_5, OF_7, OF_13, OF_31]


def is_prime(n):
    return n > 1 and all(n % d != 0 for d in range(2, n) if d * d <= n)


def stands(root, p):
    """Whether the powers of root by p are all rests but 0."""
    return len(set(root ** k % p for k in range(1, p))) == p - 1 and root % p != 0


class SeesPaper(SoonTest):
    def sees(self, rows, n):
        kept = copy.deepcopy((rows, n))
        told = sees_paper(rows, n)
        self.assertEqual((rows, n), kept)
        self.assertIs(sees_paper(rows, n), told)
        self.assertIs(type(told), bool)
        return told

    def yes(self, rows, n):
        self.assertIs(self.sees(rows, n), True, (rows, n))

    def no(self, rows, n):
        self.assertIs(self.sees(rows, n), False, (rows, n))

    def test_the_empty_list_holds_for_two_alone(self):
        self.yes([], 2)
        for n in [-2, -1, 0, 1, 3, 4, 5, 7] + LONG_NUMBERS:
            self.no([], n)

    def test_holds_for_two_and_each_first_part(self):
        for n in (2, 3, 5, 7, 13, 31):
            self.yes(BOOK, n)
        for n in (-3, -2, -1, 0, 1, 4, 6, 8, 9, 11, 15, 17, 32, 62, GREATEST_LONG):
            self.no(BOOK, n)

    def test_tuples_that_are_not_needed(self):
        self.yes([OF_3], 3)
        self.yes([OF_5, OF_3], 5)
        self.yes([OF_5, OF_3, OF_7, OF_13], 7)
        self.yes([OF_3, OF_13, OF_5, OF_31], 2)

    def test_a_p_more_than_once(self):
        self.yes([OF_3, OF_3], 3)
        self.yes([OF_3, (3, -1, [(2, 1)]), OF_7, OF_3, OF_7, (7, 5, [(3, 1), (2, 1)])], 7)
        self.no([OF_3, OF_7, (7, 2, [(2, 1), (3, 1)])], 7)
        self.no([OF_3, (7, 2, [(2, 1), (3, 1)]), OF_7], 7)
        self.no([OF_3, OF_7, (7, 3, [(2, 1)])], 7)

    def test_each_root(self):
        for row in BOOK:
            p = row[0]
            for root in list(range(-2 * p, 3 * p)):
                told = self.sees(BOOK + [(p, root, row[2])], p)
                self.assertIs(told, stands(root % p, p), (p, root))

    def test_long_roots(self):
        for root in LONG_NUMBERS + [-number for number in LONG_NUMBERS]:
            self.assertIs(self.sees([OF_3, (7, root, [(2, 1), (3, 1)])], 7), stands(root % 7, 7))

    def test_parts_in_any_order(self):
        for parts in [[(2, 1), (3, 1), (5, 1)], [(5, 1), (2, 1), (3, 1)], [(3, 1), (5, 1), (2, 1)]]:
            self.yes([OF_3, OF_5, (31, 3, parts)], 31)

    def test_a_p_below_three(self):
        for p in [2, 1, 0, -1, -2, -3, -7, -GREATEST_LONG]:
            for parts in [[], [(2, 1)], [(2, 2)], [(3, 1)]]:
                for root in (0, 1, 2, 3):
                    self.no([OF_3, (p, root, parts)], 3)
                    self.no([OF_3, (p, root, parts)], p)
                    self.no([(p, root, parts)], 2)

    def test_a_q_whose_tuple_stands_behind_or_nowhere(self):
        self.no([OF_7, OF_3], 7)
        self.no([OF_7], 7)
        self.no([OF_7], 2)
        self.no([OF_7, OF_3, OF_7], 7)
        self.no([OF_5, OF_31, OF_3], 31)
        self.no([OF_3, OF_31, OF_5], 31)

    def test_a_q_that_is_its_own_p(self):
        self.no([(3, 2, [(3, 1)])], 3)
        self.no([(7, 3, [(7, 1)])], 7)
        self.no([(7, 3, [(2, 1), (3, 1), (7, 1)])], 7)

    def test_a_q_that_is_no_prime_or_below_two(self):
        for parts in [[(4, 1)], [(-2, 2)], [(-4, 1)], [(2, 2), (1, 1)], [(1, 1), (2, 2)], [(2, 2), (0, 1)]]:
            self.no(BOOK + [(5, 2, parts)], 5)
        self.no([OF_3, (13, 2, [(12, 1)])], 13)
        self.no([OF_3, (13, 2, [(6, 1), (2, 1)])], 13)

    def test_a_q_that_stands_twice(self):
        self.no([(5, 2, [(2, 1), (2, 1)])], 5)
        self.no([OF_3, (13, 2, [(2, 1), (3, 1), (2, 1)])], 13)
        self.no([OF_3, (19, 2, [(2, 1), (3, 1), (3, 1)])], 19)
        self.yes([OF_3, (19, 2, [(2, 1), (3, 2)])], 19)

    def test_an_often_below_one(self):
        for often in (0, -1, -GREATEST_LONG):
            self.no(BOOK + [(7, 3, [(2, 1), (3, 1), (5, often)])], 7)
            self.no(BOOK + [(7, 3, [(5, often), (2, 1), (3, 1)])], 7)
            self.no([(3, 2, [(2, often)])], 3)

    def test_a_wrong_product(self):
        for parts in [[], [(2, 1)], [(3, 1)], [(2, 2), (3, 1)], [(2, 1), (3, 2)], [(2, 1), (3, 1), (5, 1)], [(5, 1)]]:
            self.no(BOOK + [(7, 3, parts)], 7)
        self.no([(5, 2, [(2, 1)])], 5)
        self.no([(5, 2, [(2, 3)])], 5)
        self.no([(3, 2, [])], 3)

    def test_a_root_whose_power_is_not_one(self):
        self.no([(9, 2, [(2, 3)])], 9)
        self.no([(9, 3, [(2, 3)])], 9)
        self.no([OF_3, (25, 2, [(2, 3), (3, 1)])], 25)
        for root in range(-20, 40):
            self.no([OF_7, (15, root, [(2, 1), (7, 1)])], 15)
            self.no(BOOK + [(15, root, [(2, 1), (7, 1)])], 15)
        for p in (0, 3, 6, -3):
            self.no([(3, p, [(2, 1)])], 3)

    def test_a_root_whose_power_to_a_part_is_one(self):
        self.no([(5, 4, [(2, 2)])], 5)
        self.no([OF_3, (7, 2, [(2, 1), (3, 1)])], 7)
        self.no([OF_3, (7, 6, [(2, 1), (3, 1)])], 7)
        self.no(BOOK + [(561, 2, [(2, 4), (5, 1), (7, 1)])], 561)
        for row in BOOK:
            self.no(BOOK + [(row[0], 1, row[2])], row[0])
            self.no(BOOK + [(row[0], row[0] + 1, row[2])], row[0])

    def test_each_tuple_counts(self):
        for place in range(len(BOOK) + 1):
            rows = BOOK[:place] + [(9, 2, [(2, 3)])] + BOOK[place:]
            for n in (2, 3, 31, 9):
                self.no(rows, n)

    def test_things_of_any_kind_in_place_of_n(self):
        for thing in NO_WHOLES + [[2], (3,), "2", "3", [OF_3], OF_3]:
            self.no([], thing)
            self.no(BOOK, thing)
            self.no([OF_3, thing], thing)

    def test_things_of_any_kind_in_place_of_the_list(self):
        for thing in NO_WHOLES + [0, 2, 3, -1, GREATEST_LONG, "[]", tuple(BOOK), (OF_3,), OF_3, list(OF_3)]:
            if thing != []:
                self.no(thing, 2)
                self.no(thing, 3)
                self.no(thing, thing)

    def test_things_of_any_kind_in_place_of_a_tuple(self):
        for thing in NO_WHOLES + [0, 3, "3", list(OF_3), [OF_3], (OF_3,), (3, 2), (3,), OF_3 + (1,), OF_3 + OF_3]:
            for rows in ([thing], [OF_3, thing], [thing, OF_3], [OF_3, OF_7, thing, OF_5]):
                self.no(rows, 2)
                self.no(rows, 3)

    def test_things_of_any_kind_in_each_place_of_a_tuple(self):
        for thing in NO_WHOLES:
            self.no([(thing, 2, [(2, 1)])], 2)
            self.no([(thing, 2, [(2, 1)])], thing)
            self.no([OF_3, (3, thing, [(2, 1)])], 3)
            self.no([OF_3, (3, 2, thing)], 3)
        for parts in [((2, 1),), (2, 1), "21", 2, [2, 1], [[2, 1]], [(2,)], [(2, 1, 1)], [()], [((2, 1),)], [[(2, 1)]]]:
            self.no([(3, 2, parts)], 3)
            self.no([OF_3, (3, 2, parts)], 3)

    def test_things_of_any_kind_in_the_parts(self):
        for thing in NO_WHOLES + [0, 2, "2", [2, 1], (2,), (2, 1, 0)]:
            self.no([(3, 2, [thing])], 3)
            self.no([(3, 2, [(2, 1), thing])], 3)
            self.no([(3, 2, [thing, (2, 1)])], 3)
        for thing in NO_WHOLES:
            self.no([(3, 2, [(thing, 1)])], 3)
            self.no([(3, 2, [(2, thing)])], 3)
            self.no([(3, 2, [(2, 1), (thing, 1)])], 3)
            self.no([OF_3, OF_7, (7, 3, [(2, 1), (3, thing)])], 7)

    def test_truths_stand_for_no_whole_numbers(self):
        self.no([OF_3, OF_7, (7, 3, [(2, True), (3, True)])], 7)
        self.no([(3, 2, [(2, True)])], 3)
        self.no([OF_3, (3, 2, [(2, True)])], 3)
        self.no([(3, -1, [(2, 1)]), (3, True, [(2, 1)])], 3)
        self.no([], True)
        self.no([], False)

    def test_long_paper(self):
        rows = long_paper()
        self.assertEqual(len(str(rows[-1][0])), 130)
        for row in rows:
            self.yes(rows, row[0])
        self.yes(rows, 2)
        self.no(rows, rows[-1][0] + 2)
        self.no(rows, THREES)
        self.no(rows[1:], rows[-1][0])
        p, root, parts = rows[-1]
        self.yes(rows + [(p, root + p, parts[::-1]), (p, root - p, parts)], p)
        self.no(rows + [(p, root, parts[:-1])], p)
        self.no(rows + [(p, pow(root, 2, p), parts)], p)
        self.no(rows + [(p, pow(root, parts[-1][0], p), parts)], p)

    def test_a_high_power_of_two(self):
        rows = twos_paper()
        p, root, parts = rows[-1]
        self.assertEqual(len(str(p)), 130)
        self.yes(rows, p)
        self.no(rows[:-1] + [(p, root, [(2, parts[0][1] - 1)] + parts[1:])], p)
        self.no(rows[:-1] + [(p, root, [(2, parts[0][1] + 1)] + parts[1:])], p)

    def test_a_long_often(self):
        for often in LONG_NUMBERS:
            self.no([(3, 2, [(2, often)])], 3)
            self.no([OF_3, (THREES, 2, [(3, often), (2, 1)])], THREES)
            self.no([OF_3, OF_5, (GREATEST_LONG, 2, [(2, 1), (3, often), (5, often)])], GREATEST_LONG)
            for q in (0, 1, -1):
                self.no([(THREES, 2, [(q, often)])], 3)
                self.no([OF_3, (SEVENS, 2, [(3, 1), (q, often)])], 3)

    def test_long_lists(self):
        self.yes([OF_3] * 100000, 3)
        self.no([OF_3] * 100000 + [OF_31], 3)
        self.no([(3, 2, [(2, 1)] * 100000)], 3)
        self.no([None] * 100000, 3)
        self.no([(3,) * 100000], 3)
        rows = long_paper()
        told = sees_paper(rows * 4000, rows[-1][0])
        self.assertIs(told, True)

    def test_a_list_changed_behind_the_call(self):
        rows = copy.deepcopy(BOOK)
        self.assertIs(sees_paper(rows, 7), True)
        rows[2][2].append((5, 1))
        self.assertIs(sees_paper(rows, 7), False)
        rows[2][2].pop()
        self.assertIs(sees_paper(rows, 7), True)
        rows.clear()
        self.assertIs(sees_paper(rows, 7), False)


class PrimePaper(SoonTest):
    def check_paper(self, n):
        rows = prime_paper(n)
        self.assertIs(type(rows), list)
        self.assertIs(sees_paper(rows, n), True)
        firsts = [row[0] for row in rows]
        self.assertEqual(firsts, sorted(set(firsts)))
        needed = [n] + [q for row in rows for q, often in row[2]]
        self.assertEqual(firsts, sorted(set(needed) - {2}))
        for p, root, parts in rows:
            self.assertIs(type(parts), list)
            self.assertEqual([q for q, often in parts], trial_divisors(p - 1))
            for less in range(2, root):
                self.assertIs(sees_paper(rows + [(p, less, parts)], n), False)

    def test_written_out(self):
        self.assertEqual(prime_paper(2), [])
        self.assertEqual(prime_paper(3), [OF_3])
        self.assertEqual(prime_paper(5), [OF_5])
        self.assertEqual(prime_paper(7), [OF_3, OF_7])
        self.assertEqual(prime_paper(31), [OF_3, OF_5, OF_31])
        self.assertEqual(prime_paper(65537), [(65537, 3, [(2, 16)])])
        self.assertEqual(prime_paper(999983), [
            OF_3, OF_7, OF_13, (79, 3, [(2, 1), (3, 1), (13, 1)]), (113, 3, [(2, 4), (7, 1)]),
            (6329, 3, [(2, 3), (7, 1), (113, 1)]), (999983, 5, [(2, 1), (79, 1), (6329, 1)]),
        ])

    def test_each_small_number(self):
        for n in range(2, 1500):
            if is_prime(n):
                self.check_paper(n)
            else:
                with self.assertRaises(NoPrime) as caught:
                    prime_paper(n)
                self.assertEqual(caught.exception.divisor, trial_divisors(n)[0], n)

    def test_some_greater_ones(self):
        # Of 409, 110881 and 760321 the least roots are far from 2; of the others p - 1 has few parts or many.
        for n in (409, 8191, 110881, 131071, 510529, 524287, 746773, 760321, 786433, 999331, 999979, 999983):
            self.check_paper(n)

    def refused_with(self, n, divisor):
        refused_alike(self, NoPrime, prime_paper, n)
        with self.assertRaises(NoPrime) as caught:
            prime_paper(n)
        self.assertEqual(caught.exception.divisor, divisor)
        self.assertIs(type(caught.exception.divisor), int)

    def test_composites(self):
        for n, divisor in [(4, 2), (6, 2), (9, 3), (25, 5), (49, 7), (91, 7), (561, 3), (994009, 997), (999997, 757)]:
            self.refused_with(n, divisor)
        self.refused_with(999998, 2)
        self.refused_with(999999, 3)

    def test_below_two(self):
        for n in [1, 0, -1, -2, -3, -7, -999983, -1000000] + [-number for number in LONG_NUMBERS]:
            self.refused_with(n, 0)

    def test_too_great(self):
        for n in [1000000, 1000001, 1000003, 1000004, LEAST_LONG, GREATEST_LONG, THREES, SEVENS]:
            refused_alike(self, TooMany, prime_paper, n)

    def test_told_lists_are_the_askers_own(self):
        told = prime_paper(7)
        told[0][2].append((9, 9))
        told[1][2].clear()
        told.append(OF_5)
        self.assertEqual(prime_paper(7), [(3, 2, [(2, 1)]), (7, 3, [(2, 1), (3, 1)])])
        self.assertEqual(prime_paper(3), [(3, 2, [(2, 1)])])
        prime_paper(2).append(OF_3)
        self.assertEqual(prime_paper(2), [])

    def test_answered_as_before_behind_refusals(self):
        refused_alike(self, NoPrime, prime_paper, 8)
        refused_alike(self, TooMany, prime_paper, 1000003)
        self.assertEqual(prime_paper(7), [OF_3, OF_7])


if __name__ == "__main__":
    unittest.main()
