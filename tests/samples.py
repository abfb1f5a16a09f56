"""Numbers that several tests walk, and the plain meaning of what they ask, worked out apart from the program."""

KINDS = (-2, -1, 2, 3)
NO_KINDS = (-3, 0, 1, 4, 5, -(10 ** 600), 10 ** 600, 10 ** 5000)

NOUGHT = (0, 0)
ONE = (1, 0)


def box(reach):
    span = range(-reach, reach + 1)
    return [(a, b) for a in span for b in span]


def great(seed, figures):
    """A whole number of about so many figures, the same one at each run."""
    return pow(7, 3001 + seed, 10 ** figures) + seed


def great_number(seed, figures):
    """The signs of the parts go through all four pairs as the seed grows."""
    first = great(2 * seed, figures)
    second = great(2 * seed + 1, figures)
    return (-first if seed % 2 else first, -second if seed // 2 % 2 else second)


def product(kind, one, two):
    a, b = one
    c, d = two
    return (a * c + kind * b * d, a * d + b * c)


def total(one, two):
    return (one[0] + two[0], one[1] + two[1])


def norm(kind, one):
    a, b = one
    return a * a - kind * b * b


def goes_into(kind, one, two):
    if one == NOUGHT:
        return two == NOUGHT
    whole = norm(kind, one)
    first, second = product(kind, two, (one[0], -one[1]))
    return first % whole == 0 and second % whole == 0


# The basic unit of each kind, and the number that makes one of it.
BASIC = {-2: (-1, 0), -1: (0, 1), 2: (1, 1), 3: (2, 1)}
BACK = {-2: (-1, 0), -1: (0, -1), 2: (-1, 1), 3: (2, -1)}

# One number of each kind, neither nought nor going into one.
NO_UNITS = {-2: (1, 1), -1: (2, 1), 2: (3, 1), 3: (1, 1)}


def unit_row(kind, factor, count):
    """One, and the factor taken once, twice and so on, up to so many times."""
    row = [ONE]
    for _ in range(count):
        row.append(product(kind, row[-1], factor))
    return row


def minus(one):
    return (-one[0], -one[1])


def long_units(kind):
    """Units of some hundred figures, of over six hundred too; for the kinds -2 and -1, which have none, all of them."""
    if kind < 0:
        return [unit for unit in box(1) if abs(norm(kind, unit)) == 1]
    units = []
    for factor in (BASIC[kind], BACK[kind]):
        row = unit_row(kind, factor, 1700)
        for times in (300, 301, 1000, 1046, 1047, 1700):
            units += [row[times], minus(row[times])]
    return units


def quotient(kind, one, two):
    """By how much the second is the first taken, where the first goes into it."""
    first, second = product(kind, two, (one[0], -one[1]))
    whole = norm(kind, one)
    return (first // whole, second // whole)
