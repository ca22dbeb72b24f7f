"""What more than one file asks of the things that are handed in, in one place."""

from sawsign.errors import NoCount, NotOdd, TooMany


def is_whole(thing):
    # To Python a truth is a whole number, too; here it is none.
    return isinstance(thing, int) and not isinstance(thing, bool)


def is_pair_of_wholes(thing):
    return isinstance(thing, tuple) and len(thing) == 2 and is_whole(thing[0]) and is_whole(thing[1])


def need_from(least, number):
    if number < least:
        # The number stays out of the words: Python refuses to write one of very many figures.
        raise NoCount(f"a number that is to be from {least} on is less")


def need_odd(m):
    need_from(1, m)
    if m % 2 == 0:
        raise NotOdd("m is even")


def need_to(most, number):
    if number > most:
        raise TooMany(f"a number that is to be at most {most} is greater")
