"""The kinds of numbers that there are."""

from twofold.errors import BadKind

KINDS = (-2, -1, 2, 3)


def check_kind(kind):
    if kind not in KINDS:
        # The words don't show the kind: Python refuses to write out very long numbers.
        raise BadKind("the kinds are -2, -1, 2 and 3 alone")
