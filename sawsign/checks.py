"""What more than one file refuses, in one place."""

from sawsign.errors import NoCount


def need_from(least, number):
    if number < least:
        # The number stays out of the words: Python refuses to write one of very many figures.
        raise NoCount(f"a number that is to be from {least} on is less")
