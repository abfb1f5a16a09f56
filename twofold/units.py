"""Units: the numbers that go into one."""

from twofold.dividing import ONE, mirror
from twofold.errors import NoUnit
from twofold.kinds import check_kind
from twofold.sums import multiplied, signed_size, size

BASIC = {-2: (-1, 0), -1: (0, 1), 2: (1, 1), 3: (2, 1)}


def is_unit(kind, one):
    return size(kind, one) == 1


def check_unit(kind, one):
    if not is_unit(kind, one):
        raise NoUnit("only a number of size one is a unit")


def times_whole(whole, one):
    return (whole * one[0], whole * one[1])


def turned(kind, one):
    check_unit(kind, one)
    # A unit times its mirror is 1 or -1, and multiplied by that once more it is one.
    return times_whole(signed_size(kind, one), mirror(one))


def taken(kind, one, times):
    result = ONE
    square = one
    left = times
    while left > 0:
        if left % 2 == 1:
            result = multiplied(kind, result, square)
        square = multiplied(kind, square, square)
        left = left // 2
    return result


def unit_of(kind, sign, times):
    check_kind(kind)
    basic = BASIC[kind]
    factor = turned(kind, basic) if times < 0 else basic
    return times_whole(sign, taken(kind, factor, abs(times)))


def steps_to(kind, one):
    steps = 0
    unit = ONE
    while unit != one:
        unit = multiplied(kind, unit, BASIC[kind])
        steps = steps + 1
    return steps


def sign_of(kind, one):
    # Of a and b * w the one whose product with itself is the greater gives the sum its sign.
    leading = one[0] if signed_size(kind, one) == 1 else one[1]
    return 1 if leading > 0 else -1


def told_unit(kind, one):
    check_unit(kind, one)
    if kind < 0:
        return (1, steps_to(kind, one))
    # Turning a unit, or taking it from nought, changes nothing but the signs of its parts; and the basic
    # unit taken any times from nought on has no part below nought.
    steps = steps_to(kind, (abs(one[0]), abs(one[1])))
    # Parts of unlike signs make the sum less than one, its sign aside, as turned ones are.
    times = -steps if one[0] * one[1] < 0 else steps
    return (sign_of(kind, one), times)
