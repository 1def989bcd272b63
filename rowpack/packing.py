"""Rows written as texts of parts, and such texts read again."""

from rowpack.errors import NoNumber, NoRow
from rowpack.figures import number_of, shown
from rowpack.runs import rising_from, same_from

# Fewer numbers than this stand each by itself.
LEAST = 3


def packed(row):
    texts = []
    at = 0
    while at < len(row):
        part = part_at(row, at)
        texts.append(text_of(part))
        at = at + count_of(part)
    return " ".join(texts)


def part_at(row, at):
    same = same_from(row, at)
    if same >= LEAST:
        return ("same", row[at], same)
    rising = rising_from(row, at)
    if rising >= LEAST:
        return ("rise", row[at], row[at + rising - 1])
    return ("one", row[at])


def text_of(part):
    if part[0] == "same":
        return shown(part[1]) + "x" + shown(part[2])
    if part[0] == "rise":
        return shown(part[1]) + ".." + shown(part[2])
    return shown(part[1])


def count_of(part):
    if part[0] == "same":
        return part[2]
    if part[0] == "rise":
        return part[2] - part[1] + 1
    return 1


def parts_of(line):
    # Splitting the empty text would give one empty part, which is none.
    if line == "":
        return []
    return [part_of(words) for words in line.split(" ")]


def part_of(words):
    # A second x or .. stays in the last side, which then writes no number.
    if "x" in words:
        sides = words.partition("x")
        part = ("same", number_in(sides[0]), number_in(sides[2]))
    elif ".." in words:
        sides = words.partition("..")
        part = ("rise", number_in(sides[0]), number_in(sides[2]))
    else:
        return ("one", number_in(words))
    if count_of(part) < LEAST:
        raise NoRow(f"too few numbers for one part: {words!r}")
    return part


def number_in(words):
    try:
        return number_of(words)
    except NoNumber:
        raise NoRow(f"no number in a part: {words!r}") from None


def read(line):
    row = []
    # All parts are looked at first, so that a wrong one is refused before a great one is written out.
    for part in parts_of(line):
        row.extend(numbers_of(part))
    return row


def numbers_of(part):
    if part[0] == "same":
        return [part[1]] * part[2]
    if part[0] == "rise":
        return list(range(part[1], part[2] + 1))
    return [part[1]]


def is_tidy(line):
    # A part may stand for more numbers than could be written out, so parts are weighed, not the row.
    try:
        parts = parts_of(line)
    except NoRow:
        return False
    return all([is_as_packed(parts, at) for at in range(len(parts))])


def is_as_packed(parts, at):
    part = parts[at]
    behind = two_behind(parts, at)
    if part[0] == "same":
        return behind[:1] != [part[1]]
    if part[0] == "rise":
        return behind[:1] != [part[2] + 1]
    return part_at([part[1]] + behind, 0) == part


def two_behind(parts, at):
    # With the number of a part by itself, two more are the least that packing could have drawn in.
    numbers = []
    for part in parts[at + 1:at + 3]:
        numbers.extend(first_two(part))
    return numbers[:2]


def first_two(part):
    if part[0] == "same":
        return [part[1], part[1]]
    if part[0] == "rise":
        return [part[1], part[1] + 1]
    return [part[1]]


def many_in(line):
    return sum([count_of(part) for part in parts_of(line)])
