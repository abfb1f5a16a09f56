"""Division with a rest, and greatest common divisors."""

from twofold.errors import ByNought
from twofold.kinds import check_kind
from twofold.sums import added, multiplied, signed_size

NOUGHT = (0, 0)
ONE = (1, 0)


def mirror(one):
    return (one[0], -one[1])


def rounded(part, whole):
    # Rounding part / whole + 1/2 down takes a half to the greater one, for a whole below nought too.
    return (2 * part + whole) // (2 * whole)


def nearest_quotient(kind, one, two):
    product = multiplied(kind, one, mirror(two))
    whole = signed_size(kind, two)
    return (rounded(product[0], whole), rounded(product[1], whole))


def without(kind, one, factor, two):
    product = multiplied(kind, factor, two)
    return added(kind, one, (-product[0], -product[1]))


def split(kind, one, two):
    check_kind(kind)
    if two == NOUGHT:
        raise ByNought("by nought nothing is split")
    quotient = nearest_quotient(kind, one, two)
    return (quotient, without(kind, one, quotient, two))


def divides(kind, one, two):
    check_kind(kind)
    if one == NOUGHT:
        return two == NOUGHT
    return split(kind, two, one)[1] == NOUGHT


def alike(kind, one, two):
    return divides(kind, one, two) and divides(kind, two, one)


def common(kind, one, two):
    check_kind(kind)
    # In each row the number is the first factor times one and the second factor times two, summed up.
    upper = (one, ONE, NOUGHT)
    lower = (two, NOUGHT, ONE)
    while lower[0] != NOUGHT:
        quotient = nearest_quotient(kind, upper[0], lower[0])
        rest = tuple([without(kind, upper[k], quotient, lower[k]) for k in range(3)])
        upper = lower
        lower = rest
    return upper
