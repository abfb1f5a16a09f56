"""Numbers parted into those that part no further."""

from twofold.dividing import NOUGHT, common, split
from twofold.errors import ByNought
from twofold.kinds import check_kind
from twofold.sums import size


def primes_of(whole):
    primes = []
    left = whole
    factor = 2
    while factor * factor <= left:
        if left % factor == 0:
            primes.append(factor)
        while left % factor == 0:
            left = left // factor
        factor = factor + 1
    if left > 1:
        primes.append(left)
    return primes


def roots(kind, prime):
    return [root for root in range(prime) if (root * root - kind) % prime == 0]


def part_at(kind, one, prime):
    # What parts no further is of prime size, or else alike with a prime that the kind has no root by.
    shared = common(kind, one, (prime, 0))[0]
    if size(kind, shared) == prime:
        return shared
    # Here the prime itself goes into the number, so the size holds it twice, and the search for a root is short.
    found = roots(kind, prime)
    if found == []:
        return (prime, 0)
    return common(kind, (prime, 0), (found[0], 1))[0]


def parts(kind, one):
    check_kind(kind)
    if one == NOUGHT:
        raise ByNought("nought is no product of numbers that part no further")
    rest = one
    found = []
    for prime in primes_of(size(kind, one)):
        while size(kind, rest) % prime == 0:
            part = part_at(kind, rest, prime)
            found.append(part)
            rest = split(kind, rest, part)[0]
    return (rest, found)


def parts_no_further(kind, one):
    check_kind(kind)
    return one != NOUGHT and len(parts(kind, one)[1]) == 1
