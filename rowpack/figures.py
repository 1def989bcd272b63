"""Whole numbers and the texts that write them."""

from rowpack.errors import NoNumber

FIGURES = "0123456789"

# Python's own int and str refuse a number whose figures are more than its settings allow.
# A group of nine figures keeps below any such setting, so numbers are turned group by group.
WIDTH = 9
GROUP = 1000000000


def shown(number):
    if number < 0:
        return "-" + figures_of(-number)
    return figures_of(number)


def figures_of(number):
    figures = ""
    while number >= GROUP:
        figures = str(number % GROUP).zfill(WIDTH) + figures
        number = number // GROUP
    return str(number) + figures


def number_of(words):
    # int alone would take blanks, a plus, underscores and the figures of other scripts too.
    if not is_number(words):
        raise NoNumber(f"no number: {words!r}")
    if words.startswith("-"):
        return -value_of(words[1:])
    return value_of(words)


def is_number(words):
    if words == "0":
        return True
    figures = words[1:] if words.startswith("-") else words
    if figures == "" or figures.startswith("0"):
        return False
    return all([sign in FIGURES for sign in figures])


def value_of(figures):
    ahead = len(figures) % WIDTH
    number = int(figures[:ahead]) if ahead > 0 else 0
    for at in range(ahead, len(figures), WIDTH):
        number = number * GROUP + int(figures[at:at + WIDTH])
    return number
