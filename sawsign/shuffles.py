"""Shuffles: one behind another, undone, rounds, crossings and sign, and those that a makes (points 10 to 12)."""

from sawsign.checks import is_whole, need_from, need_to
from sawsign.errors import NoShuffle
from sawsign.wholes import need_apart

MOST_PLACES = 200


def is_shuffle(row):
    if not isinstance(row, tuple):
        return False
    seen = [False] * len(row)
    for number in row:
        if not is_whole(number) or number < 0 or number >= len(row) or seen[number]:
            return False
        seen[number] = True
    return True


def need_shuffle(row):
    if not is_shuffle(row):
        raise NoShuffle("this is no shuffle")


def need_short_shuffle(row):
    need_shuffle(row)
    need_to(MOST_PLACES, len(row))


def behind(one, other):
    need_shuffle(one)
    need_shuffle(other)
    # Unlike lengths are refused ahead of too many places.
    if len(one) != len(other):
        raise NoShuffle("the two shuffles have not as many places")
    need_to(MOST_PLACES, len(one))
    return tuple([other[number] for number in one])


def undone(row):
    need_short_shuffle(row)
    places = [0] * len(row)
    for place, number in enumerate(row):
        places[number] = place
    return tuple(places)


def round_from(row, first):
    numbers = [first]
    number = row[first]
    while number != first:
        numbers.append(number)
        number = row[number]
    return numbers


def rounds_of(row):
    need_short_shuffle(row)
    rounds = []
    seen = [False] * len(row)
    for first in range(len(row)):
        if not seen[first]:
            numbers = round_from(row, first)
            rounds.append(numbers)
            for number in numbers:
                seen[number] = True
    return rounds


def crossings_of(row):
    need_short_shuffle(row)
    crossings = 0
    for j in range(len(row)):
        crossings += len([number for number in row[:j] if number > row[j]])
    return crossings


def sign_of(row):
    rounds = rounds_of(row)
    return 1 if (len(row) - len(rounds)) % 2 == 0 else -1


def shuffle_of(a, m):
    need_from(1, m)
    need_to(MOST_PLACES, m)
    need_apart(a, m)
    return tuple([a * k % m for k in range(m)])
