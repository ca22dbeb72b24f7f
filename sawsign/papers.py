"""Papers, which show that a number is prime: whether one holds, and the paper of a prime (points 18 and 19)."""

from sawsign.checks import is_pair_of_wholes, is_whole, need_to
from sawsign.errors import NoPrime
from sawsign.wholes import power_by

GREATEST_PRIME = 999999


def is_paper_row(thing):
    if not isinstance(thing, tuple) or len(thing) != 3 or not isinstance(thing[2], list):
        return False
    return is_whole(thing[0]) and is_whole(thing[1]) and all([is_pair_of_wholes(part) for part in thing[2]])


def parts_are_allowed(parts, ahead):
    seen = {}
    for part in parts:
        if part[0] not in ahead or part[0] in seen or part[1] < 1:
            return False
        seen[part[0]] = True
    return True


def parts_make(parts, number):
    product = 1
    for part in parts:
        taken = 0
        # How often may have very many figures; past the number there is nothing more to see.
        while taken < part[1] and product <= number:
            product = product * part[0]
            taken += 1
    return product == number


def can_be_root(root, p, parts):
    if power_by(root, p - 1, p) != 1:
        return False
    for part in parts:
        if power_by(root, (p - 1) // part[0], p) == 1:
            return False
    return True


def row_holds(row, ahead):
    p = row[0]
    parts = row[2]
    # In this order: a q from 2 on is what lets the product end soon, and the right product is what q divides.
    if p < 3 or not parts_are_allowed(parts, ahead) or not parts_make(parts, p - 1):
        return False
    return can_be_root(row[1], p, parts)


def sees_paper(rows, n):
    if not isinstance(rows, list) or not is_whole(n):
        return False
    ahead = {2: True}
    held = {}
    for row in rows:
        if not is_paper_row(row):
            return False
        # A row that held holds again further on: so a long list of the same rows is seen through soon.
        key = (row[0], row[1], tuple(row[2]))
        if key not in held and not row_holds(row, ahead):
            return False
        held[key] = True
        ahead[row[0]] = True
    return n in ahead


def least_divisor(number):
    divisor = 2
    while divisor * divisor <= number:
        if number % divisor == 0:
            return divisor
        divisor += 1
    return number


def prime_parts(number):
    parts = []
    left = number
    while left > 1:
        q = least_divisor(left)
        often = 0
        while left % q == 0:
            left = left // q
            often += 1
        parts.append((q, often))
    return parts


def paper_row(p):
    parts = prime_parts(p - 1)
    root = 2
    while not can_be_root(root, p, parts):
        root += 1
    return (p, root, parts)


def need_prime(n):
    if n < 2:
        raise NoPrime(0)
    divisor = least_divisor(n)
    if divisor != n:
        raise NoPrime(divisor)


def prime_paper(n):
    need_to(GREATEST_PRIME, n)
    need_prime(n)
    rows = {}
    waiting = [n]
    while waiting != []:
        p = waiting.pop()
        if p != 2 and p not in rows:
            rows[p] = paper_row(p)
            waiting.extend([part[0] for part in rows[p][2]])
    return [rows[p] for p in sorted(rows)]
