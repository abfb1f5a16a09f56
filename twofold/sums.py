"""Sums, products and sizes of numbers; a number is a pair (a, b) and stands for a + b * w."""

from twofold.kinds import check_kind


def added(kind, one, two):
    check_kind(kind)
    return (one[0] + two[0], one[1] + two[1])


def multiplied(kind, one, two):
    check_kind(kind)
    first = one[0] * two[0] + kind * one[1] * two[1]
    second = one[0] * two[1] + one[1] * two[0]
    return (first, second)


def signed_size(kind, one):
    check_kind(kind)
    return one[0] * one[0] - kind * one[1] * one[1]


def size(kind, one):
    return abs(signed_size(kind, one))
