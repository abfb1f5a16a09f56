"""Numbers that several tests walk, and the plain meaning of what they ask, worked out apart from the program."""

KINDS = (-2, -1, 2, 3)
NO_KINDS = (-3, 0, 1, 4, 5, -(10 ** 600), 10 ** 600, 10 ** 5000)

NOUGHT = (0, 0)
ONE = (1, 0)


def box(reach):
    span = range(-reach, reach + 1)
    return [(a, b) for a in span for b in span]


def great(seed, figures):
    """A whole number of about so many figures, the same one at each run."""
    return pow(7, 3001 + seed, 10 ** figures) + seed


def great_number(seed, figures):
    """The signs of the parts go through all four pairs as the seed grows."""
    first = great(2 * seed, figures)
    second = great(2 * seed + 1, figures)
    return (-first if seed % 2 else first, -second if seed // 2 % 2 else second)


def product(kind, one, two):
    a, b = one
    c, d = two
    return (a * c + kind * b * d, a * d + b * c)


def total(one, two):
    return (one[0] + two[0], one[1] + two[1])


def norm(kind, one):
    a, b = one
    return a * a - kind * b * b


def goes_into(kind, one, two):
    if one == NOUGHT:
        return two == NOUGHT
    whole = norm(kind, one)
    first, second = product(kind, two, (one[0], -one[1]))
    return first % whole == 0 and second % whole == 0
