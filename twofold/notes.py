"""Numbers written as lines, and read from them."""

from twofold.errors import NoLine

FIGURES = "0123456789"


def figures_of(whole):
    # Figure by figure, here and in whole_of: Python's own way refuses very long numbers.
    if whole == 0:
        return "0"
    figures = []
    left = whole
    while left > 0:
        figures.append(FIGURES[left % 10])
        left = left // 10
    return "".join(reversed(figures))


def whole_of(figures):
    whole = 0
    for figure in figures:
        whole = 10 * whole + FIGURES.index(figure)
    return whole


def shown(one):
    ahead = "-" if one[0] < 0 else ""
    first = figures_of(abs(one[0]))
    between = "-" if one[1] < 0 else "+"
    second = figures_of(abs(one[1]))
    return f"{ahead}{first}{between}{second}w"


def are_figures(text):
    if text == "" or (text[0] == "0" and text != "0"):
        return False
    return all([sign in FIGURES for sign in text])


def part_of(below, text):
    if not are_figures(text) or (below and text == "0"):
        raise NoLine("a part is not written as a whole number")
    whole = whole_of(text)
    return -whole if below else whole


def read(line):
    if not line.endswith("w"):
        raise NoLine("a line ends with w")
    first_below = line.startswith("-")
    unsigned = line[1:] if first_below else line
    second_below = "-" in unsigned
    halves = unsigned.partition("-" if second_below else "+")
    return (part_of(first_below, halves[0]), part_of(second_below, halves[2][:-1]))
