"""How far a run of numbers goes in a row."""


def same_from(row, at):
    end = at + 1
    while end < len(row) and row[end] == row[at]:
        end = end + 1
    return end - at


def rising_from(row, at):
    end = at + 1
    while end < len(row) and row[end] == row[end - 1] + 1:
        end = end + 1
    return end - at
