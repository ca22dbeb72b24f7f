import itertools
import math
import unittest

from helper import GREATEST_LONG, LEAST_LONG, LONG_NUMBERS, NO_WHOLES, SEVENS, THREES
from helper import SoonTest, refused_alike
from sawsign.errors import NoCount, NoShuffle, NotApart, TooMany
from sawsign.shuffles import behind, crossings_of, is_shuffle, rounds_of, shuffle_of, sign_of, undone


def mixed(length):
    """A shuffle of so many places that is neither in order nor turned round."""
    step = next(step for step in range(length // 3 + 2, 2 * length + 3) if math.gcd(step, length) == 1)
    return tuple((step * k + 1) % length for k in range(length))


SHORT = [row for length in range(6) for row in itertools.permutations(range(length))]
LONG = [tuple(range(200)), tuple(reversed(range(200))), mixed(200), (199,) + tuple(range(199))]
TOO_LONG = [tuple(range(201)), mixed(201), tuple(range(400)), tuple(reversed(range(400)))]
NO_SHUFFLES = [
    (1,), (-1,), (0, 0), (1, 1), (0, 2), (1, 2), (0, -1), (-1, 0), (0, 1, 1), (1, 2, 3), (0, 1, 3), (2, 0, 2),
    (0, GREATEST_LONG), (-GREATEST_LONG, 0), [], [0], [1, 0], [0, 1, 2], None, "", "0", "01", 0, 1, 3, -1, True, False,
    GREATEST_LONG, (0, True), (False, 1), (False,), (True, False), (None,), ("0",), (0, "1"), ([0],), ((0,),), (0, [1]),
    (0, (1,)), (0, None), ((0, 1), (1, 0)), [(0, 1)], ((),), ([],), [None],
    tuple(range(200)) + (199,), tuple(range(1, 201)), tuple(range(1, 202)), (0,) * 400, list(range(201)),
    (True,) + tuple(range(1, 201)), tuple(range(400)) + (None,),
]


def signed_one(number):
    return 1 if number % 2 == 0 else -1


class IsShuffle(SoonTest):
    def test_short_ones(self):
        self.assertIs(is_shuffle(()), True)
        for row in SHORT:
            self.assertIs(is_shuffle(row), True, row)

    def test_all_short_rows_gone_through(self):
        for length in range(5):
            for row in itertools.product(range(-1, length + 1), repeat=length):
                self.assertIs(is_shuffle(row), sorted(row) == list(range(length)), row)

    def test_any_length(self):
        for row in LONG + TOO_LONG + [mixed(100000)]:
            self.assertIs(is_shuffle(row), True)
        self.assertIs(is_shuffle((0,) * 100000), False)
        self.assertIs(is_shuffle(list(range(100000))), False)

    def test_what_is_none(self):
        for thing in NO_SHUFFLES:
            with self.subTest(thing=thing):
                self.assertIs(is_shuffle(thing), False)

    def test_no_wholes_at_each_place(self):
        for thing in NO_WHOLES:
            for place in range(4):
                row = tuple(thing if k == place else k for k in range(4))
                self.assertIs(is_shuffle(row), False, row)

    def test_truths_stand_for_no_numbers(self):
        self.assertIs(is_shuffle((False,)), False)
        self.assertIs(is_shuffle((False, True)), False)
        self.assertIs(is_shuffle((1, False)), False)
        self.assertIs(is_shuffle((True, 0)), False)
        self.assertIs(is_shuffle((0, True, 2)), False)

    def test_nothing_handed_in_is_changed(self):
        inner = [1, 2]
        row = (0, inner)
        self.assertIs(is_shuffle(row), False)
        self.assertEqual(row, (0, [1, 2]))


class Behind(SoonTest):
    def test_written_example(self):
        self.assertEqual(behind((1, 2, 0), (1, 0, 2)), (0, 2, 1))
        self.assertEqual(behind((1, 0, 2), (1, 2, 0)), (2, 1, 0))

    def test_no_places(self):
        self.assertEqual(behind((), ()), ())

    def test_short_ones_by_point_10(self):
        for one in SHORT:
            for other in itertools.permutations(range(len(one))):
                if len(one) < 5:
                    told = behind(one, other)
                    self.assertIs(type(told), tuple)
                    self.assertEqual(len(told), len(one))
                    for k in range(len(one)):
                        self.assertEqual(told[k], other[one[k]])

    def test_long_ones(self):
        for one in LONG:
            for other in LONG:
                self.assertEqual(behind(one, other), tuple(other[one[k]] for k in range(200)))

    def test_no_shuffle_at_either_place_and_at_both(self):
        for thing in NO_SHUFFLES:
            refused_alike(self, NoShuffle, behind, thing, (1, 0))
            refused_alike(self, NoShuffle, behind, (1, 0), thing)
            refused_alike(self, NoShuffle, behind, thing, thing)
            refused_alike(self, NoShuffle, behind, thing, None)

    def test_unlike_lengths(self):
        for one, other in [((), (0,)), ((0,), (1, 0)), ((0, 1, 2), (0, 1)), (LONG[2], (0, 1))]:
            refused_alike(self, NoShuffle, behind, one, other)
            refused_alike(self, NoShuffle, behind, other, one)

    def test_unlike_lengths_where_one_is_too_long(self):
        for row in TOO_LONG:
            for other in [(), (0,), LONG[2], mixed(202)]:
                refused_alike(self, NoShuffle, behind, row, other)
                refused_alike(self, NoShuffle, behind, other, row)

    def test_too_many_places(self):
        for row in TOO_LONG:
            refused_alike(self, TooMany, behind, row, row)
            refused_alike(self, TooMany, behind, row, mixed(len(row)))

    def test_no_shuffle_beside_one_that_is_too_long(self):
        for row in TOO_LONG:
            for thing in [None, "", [], list(row), (0,) * len(row), (True,) + row[1:], -1]:
                refused_alike(self, NoShuffle, behind, row, thing)
                refused_alike(self, NoShuffle, behind, thing, row)

    def test_answered_as_before_behind_refusals(self):
        refused_alike(self, NoShuffle, behind, (1, 2, 0), (1, 0))
        self.assertEqual(behind((1, 2, 0), (1, 0, 2)), (0, 2, 1))


class Undone(SoonTest):
    def test_written_out(self):
        self.assertEqual(undone(()), ())
        self.assertEqual(undone((0,)), (0,))
        self.assertEqual(undone((1, 2, 0)), (2, 0, 1))
        self.assertEqual(undone((3, 0, 2, 1)), (1, 3, 2, 0))

    def test_brings_each_place_to_itself_both_ways(self):
        for row in SHORT + LONG:
            told = undone(row)
            self.assertIs(type(told), tuple)
            own = tuple(range(len(row)))
            self.assertEqual(behind(row, told), own)
            self.assertEqual(behind(told, row), own)
            self.assertEqual(undone(told), row)


class Rounds(SoonTest):
    def check_rounds(self, row):
        rounds = rounds_of(row)
        self.assertIs(type(rounds), list)
        self.assertEqual(sorted(number for numbers in rounds for number in numbers), list(range(len(row))))
        self.assertEqual([numbers[0] for numbers in rounds], sorted(numbers[0] for numbers in rounds))
        for numbers in rounds:
            self.assertIs(type(numbers), list)
            self.assertEqual(numbers[0], min(numbers))
            for place, number in enumerate(numbers):
                self.assertEqual(row[number], numbers[(place + 1) % len(numbers)])

    def test_written_out(self):
        self.assertEqual(rounds_of(()), [])
        self.assertEqual(rounds_of((0,)), [[0]])
        self.assertEqual(rounds_of((0, 1, 2)), [[0], [1], [2]])
        self.assertEqual(rounds_of((1, 2, 0)), [[0, 1, 2]])
        self.assertEqual(rounds_of((2, 0, 1)), [[0, 2, 1]])
        self.assertEqual(rounds_of((0, 3, 2, 4, 1)), [[0], [1, 3, 4], [2]])
        self.assertEqual(rounds_of((5, 4, 2, 3, 1, 0)), [[0, 5], [1, 4], [2], [3]])

    def test_short_and_long_ones(self):
        for row in SHORT + LONG:
            self.check_rounds(row)

    def test_told_lists_are_the_askers_own(self):
        told = rounds_of((1, 0, 2))
        told[0].append(9)
        told[1].clear()
        told.append([7])
        self.assertEqual(rounds_of((1, 0, 2)), [[0, 1], [2]])
        rounds_of(()).append([0])
        self.assertEqual(rounds_of(()), [])


class CrossingsAndSigns(SoonTest):
    def test_written_out(self):
        for row, crossings, sign in [
            ((), 0, 1), ((0,), 0, 1), ((0, 1), 0, 1), ((1, 0), 1, -1), ((1, 2, 0), 2, 1), ((2, 1, 0), 3, -1),
            ((3, 2, 1, 0), 6, 1), ((1, 2, 3, 0), 3, -1), ((0, 3, 2, 4, 1), 4, 1),
        ]:
            self.assertEqual(crossings_of(row), crossings)
            self.assertEqual(sign_of(row), sign)

    def test_crossings_gone_through(self):
        for row in SHORT + LONG:
            pairs = [(i, j) for j in range(len(row)) for i in range(j) if row[i] > row[j]]
            self.assertEqual(crossings_of(row), len(pairs))

    def test_sign_by_rounds_and_by_crossings(self):
        for row in SHORT + LONG:
            self.assertEqual(sign_of(row), signed_one(len(row) - len(rounds_of(row))))
            self.assertEqual(sign_of(row), signed_one(crossings_of(row)))
            self.assertIs(type(sign_of(row)), int)

    def test_sign_of_one_behind_another(self):
        pairs = [(one, other) for one in SHORT for other in SHORT if len(one) == len(other) < 5]
        pairs += [(one, other) for one in LONG for other in LONG]
        for one, other in pairs:
            self.assertEqual(sign_of(behind(one, other)), sign_of(one) * sign_of(other))

    def test_most_crossings(self):
        self.assertEqual(crossings_of(tuple(reversed(range(200)))), 19900)


class RefusalsOfOneShuffle(SoonTest):
    ASKS = [undone, rounds_of, crossings_of, sign_of]

    def test_no_shuffle_of_any_kind(self):
        for ask in self.ASKS:
            for thing in NO_SHUFFLES:
                refused_alike(self, NoShuffle, ask, thing)

    def test_no_wholes_at_each_place(self):
        for ask in self.ASKS:
            for thing in NO_WHOLES:
                refused_alike(self, NoShuffle, ask, (thing,))
                refused_alike(self, NoShuffle, ask, (0, thing))

    def test_too_many_places(self):
        for ask in self.ASKS:
            for row in TOO_LONG:
                refused_alike(self, TooMany, ask, row)

    def test_two_hundred_places_are_answered(self):
        for ask in self.ASKS:
            for row in LONG:
                ask(row)

    def test_answered_as_before_behind_refusals(self):
        for ask in self.ASKS:
            told = ask((2, 0, 1, 3))
            refused_alike(self, NoShuffle, ask, (2, 0, 1, True))
            refused_alike(self, TooMany, ask, TOO_LONG[0])
            self.assertEqual(ask((2, 0, 1, 3)), told)


class ShuffleOf(SoonTest):
    def test_written_out(self):
        self.assertEqual(shuffle_of(3, 7), (0, 3, 6, 2, 5, 1, 4))
        self.assertEqual(shuffle_of(-1, 5), (0, 4, 3, 2, 1))
        self.assertEqual(shuffle_of(1, 4), (0, 1, 2, 3))
        self.assertEqual(shuffle_of(1, 2), (0, 1))

    def test_by_one(self):
        for a in [0, 1, -1, 5] + LONG_NUMBERS:
            self.assertEqual(shuffle_of(a, 1), (0,))

    def test_each_small_m(self):
        for m in list(range(1, 31)) + [199, 200]:
            for a in range(-2 * m, 2 * m + 1):
                if math.gcd(a, m) == 1:
                    told = shuffle_of(a, m)
                    self.assertIs(type(told), tuple)
                    self.assertIs(is_shuffle(told), True)
                    self.assertEqual(told, tuple(a * k % m for k in range(m)))
                elif a % 5 == 0:
                    refused_alike(self, NotApart, shuffle_of, a, m)

    def test_long_a(self):
        for m in (7, 13, 200):
            for a in (THREES, -THREES, GREATEST_LONG, -GREATEST_LONG):
                self.assertEqual(shuffle_of(a, m), tuple(a * k % m for k in range(m)))

    def test_one_made_behind_another(self):
        for m in (9, 35, 200):
            for a, b in [(-1, 11), (13, 17), (11, 11), (THREES + 1, 13)]:
                if math.gcd(a * b, m) == 1:
                    self.assertEqual(behind(shuffle_of(a, m), shuffle_of(b, m)), shuffle_of(a * b, m))

    def test_m_below_one(self):
        for a in [0, 1, 2, -3, THREES]:
            for m in [0, -1, -2, -GREATEST_LONG]:
                refused_alike(self, NoCount, shuffle_of, a, m)

    def test_m_too_great(self):
        for m in [201, 202, 400, LEAST_LONG, SEVENS]:
            for a in [1, -1, 0, 2, 3, 7, m, THREES]:
                refused_alike(self, TooMany, shuffle_of, a, m)

    def test_not_apart(self):
        for a, m in [(0, 2), (0, 200), (2, 4), (-2, 4), (10, 200), (THREES, 3), (LEAST_LONG, 200), (199, 199)]:
            refused_alike(self, NotApart, shuffle_of, a, m)

    def test_answered_as_before_behind_refusals(self):
        for error, a, m in [(NoCount, 3, 0), (TooMany, 3, 201), (NotApart, 7, 7)]:
            refused_alike(self, error, shuffle_of, a, m)
            self.assertEqual(shuffle_of(3, 7), (0, 3, 6, 2, 5, 1, 4))


if __name__ == "__main__":
    unittest.main()
