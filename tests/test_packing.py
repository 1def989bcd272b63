import inspect
import itertools
import re
import sys
import unittest

from rowpack.errors import NoNumber, NoRow
from rowpack.packing import is_tidy, many_in, packed, parts_of, read

# Numbers of a thousand figures and their texts, none of which leans on Python's own turning.
GREAT = 10 ** 999
GREAT_TEXT = "1" + "0" * 999
NINES = 10 ** 1000 - 1
NINES_TEXT = "9" * 1000


def great_text(more):
    return "1" + str(more).zfill(999)


# A row, what it is packed to, and the parts of that text.
PACKED = [
    ([], "", []),
    ([0], "0", [("one", 0)]),
    ([7], "7", [("one", 7)]),
    ([-7], "-7", [("one", -7)]),
    ([7, 7], "7 7", [("one", 7), ("one", 7)]),
    ([0, 0], "0 0", [("one", 0), ("one", 0)]),
    ([7, 8], "7 8", [("one", 7), ("one", 8)]),
    ([-1, 0], "-1 0", [("one", -1), ("one", 0)]),
    ([7, 7, 7], "7x3", [("same", 7, 3)]),
    ([0, 0, 0], "0x3", [("same", 0, 3)]),
    ([-7, -7, -7], "-7x3", [("same", -7, 3)]),
    ([7, 7, 7, 7], "7x4", [("same", 7, 4)]),
    ([7] * 12, "7x12", [("same", 7, 12)]),
    ([7, 8, 9], "7..9", [("rise", 7, 9)]),
    ([7, 8, 9, 10], "7..10", [("rise", 7, 10)]),
    ([-9, -8, -7], "-9..-7", [("rise", -9, -7)]),
    ([-1, 0, 1], "-1..1", [("rise", -1, 1)]),
    ([-2, -1, 0], "-2..0", [("rise", -2, 0)]),
    ([0, 1, 2], "0..2", [("rise", 0, 2)]),
    ([-2, -1, 0, 1, 2], "-2..2", [("rise", -2, 2)]),
    ([9, 8, 7], "9 8 7", [("one", 9), ("one", 8), ("one", 7)]),
    ([1, 3, 5], "1 3 5", [("one", 1), ("one", 3), ("one", 5)]),
    ([-1, -2, -3], "-1 -2 -3", [("one", -1), ("one", -2), ("one", -3)]),
    ([1, 1, 1, 2, 3], "1x3 2 3", [("same", 1, 3), ("one", 2), ("one", 3)]),
    ([1, 1, 1, 2, 3, 4], "1x3 2..4", [("same", 1, 3), ("rise", 2, 4)]),
    ([1, 2, 3, 3, 3], "1..3 3 3", [("rise", 1, 3), ("one", 3), ("one", 3)]),
    ([1, 2, 3, 3, 3, 3], "1..3 3x3", [("rise", 1, 3), ("same", 3, 3)]),
    ([1, 1, 2, 3], "1 1..3", [("one", 1), ("rise", 1, 3)]),
    ([1, 2, 2, 2], "1 2x3", [("one", 1), ("same", 2, 3)]),
    ([1, 2, 2, 3, 4], "1 2 2..4", [("one", 1), ("one", 2), ("rise", 2, 4)]),
    ([1, 1, 2, 2], "1 1 2 2", [("one", 1), ("one", 1), ("one", 2), ("one", 2)]),
    ([1, 2, 1, 2], "1 2 1 2", [("one", 1), ("one", 2), ("one", 1), ("one", 2)]),
    ([1, 2, 3, 1, 2, 3], "1..3 1..3", [("rise", 1, 3), ("rise", 1, 3)]),
    ([1, 2, 3, 5, 6, 7], "1..3 5..7", [("rise", 1, 3), ("rise", 5, 7)]),
    ([4, 4, 4, 5, 5, 5], "4x3 5x3", [("same", 4, 3), ("same", 5, 3)]),
    ([4, 4, 4, 9, 4, 4, 4], "4x3 9 4x3", [("same", 4, 3), ("one", 9), ("same", 4, 3)]),
    ([5, -5, 5], "5 -5 5", [("one", 5), ("one", -5), ("one", 5)]),
    ([GREAT], GREAT_TEXT, [("one", GREAT)]),
    ([-NINES], "-" + NINES_TEXT, [("one", -NINES)]),
    ([NINES] * 3, NINES_TEXT + "x3", [("same", NINES, 3)]),
    ([-GREAT] * 4, "-" + GREAT_TEXT + "x4", [("same", -GREAT, 4)]),
    ([GREAT, GREAT + 1, GREAT + 2], GREAT_TEXT + ".." + great_text(2), [("rise", GREAT, GREAT + 2)]),
    ([-GREAT - 2, -GREAT - 1, -GREAT], "-" + great_text(2) + "..-" + GREAT_TEXT, [("rise", -GREAT - 2, -GREAT)]),
    ([NINES, NINES + 1], NINES_TEXT + " 1" + "0" * 1000, [("one", NINES), ("one", NINES + 1)]),
    ([NINES - 1, NINES, NINES + 1], "9" * 999 + "8..1" + "0" * 1000, [("rise", NINES - 1, NINES + 1)]),
]

# Texts that can be read though their rows are packed to others: the text, its parts, its row.
UNTIDY = [
    ("7 7 7", [("one", 7), ("one", 7), ("one", 7)], [7, 7, 7]),
    ("7 8 9", [("one", 7), ("one", 8), ("one", 9)], [7, 8, 9]),
    ("-1 0 1", [("one", -1), ("one", 0), ("one", 1)], [-1, 0, 1]),
    ("7x3 7", [("same", 7, 3), ("one", 7)], [7, 7, 7, 7]),
    ("7 7x3", [("one", 7), ("same", 7, 3)], [7, 7, 7, 7]),
    ("7x3 7x3", [("same", 7, 3), ("same", 7, 3)], [7, 7, 7, 7, 7, 7]),
    ("7..9 10", [("rise", 7, 9), ("one", 10)], [7, 8, 9, 10]),
    ("6 7..9", [("one", 6), ("rise", 7, 9)], [6, 7, 8, 9]),
    ("1..3 4..6", [("rise", 1, 3), ("rise", 4, 6)], [1, 2, 3, 4, 5, 6]),
    ("1..3 4x3", [("rise", 1, 3), ("same", 4, 3)], [1, 2, 3, 4, 4, 4]),
    ("1x3 1..3", [("same", 1, 3), ("rise", 1, 3)], [1, 1, 1, 1, 2, 3]),
    ("1 1 1..3", [("one", 1), ("one", 1), ("rise", 1, 3)], [1, 1, 1, 2, 3]),
    ("1 2 3x3", [("one", 1), ("one", 2), ("same", 3, 3)], [1, 2, 3, 3, 3]),
    ("-3..-1 0", [("rise", -3, -1), ("one", 0)], [-3, -2, -1, 0]),
    ("-1 0..2", [("one", -1), ("rise", 0, 2)], [-1, 0, 1, 2]),
    ("5 1..3 4", [("one", 5), ("rise", 1, 3), ("one", 4)], [5, 1, 2, 3, 4]),
    ("9 9 9 1", [("one", 9), ("one", 9), ("one", 9), ("one", 1)], [9, 9, 9, 1]),
    (NINES_TEXT + "x3 " + NINES_TEXT, [("same", NINES, 3), ("one", NINES)], [NINES] * 4),
    (GREAT_TEXT + ".." + great_text(2) + " " + great_text(3), [("rise", GREAT, GREAT + 2), ("one", GREAT + 3)],
     [GREAT, GREAT + 1, GREAT + 2, GREAT + 3]),
]

# Wrong at either side of x and of .. as well as alone.
NO_NUMBERS = [
    "", "-", "+", "+1", "-0", "+0", "00", "01", "007", "-01", "--1", "1-", "1-2", "a", "1a", "a1", ".", "1.", ".1",
    "1.0", "1,0", "1_0", "_", "1e3", "0b1", "\u0661", "\uff13", "\u00b3", "3\u00b2", "\u22123", "1\t", "\t1", "1\n",
    "\n", "1\r", "1\u00a0", "\u20033", "1\x00", "\ufeff1", "\ud800", "X", "1X3", "\u00d7", "1\u00d73", "1\u20263",
    "0" + "9" * 999, "9" * 999 + "_", "+" + "9" * 999,
]

REFUSED = {
    "a K below 3": ["5x2", "5x1", "5x0", "0x2", "-5x2", "0x0", NINES_TEXT + "x2"],
    "a K with a sign": ["5x-3", "5x+3", "5x-4", "5x--3", "5x-0", "5x+0", "5x-1", "5x-" + NINES_TEXT, "-5x-3"],
    "a K with a nought ahead": ["5x03", "5x003", "5x00", "5x010", "5x-03", "5x0" + "9" * 999],
    "no K": ["5x", "-5x", "x"],
    "nothing ahead of x": ["x3", "x5", "-x3"],
    "a B that is less than A and two": [
        "5..6", "5..5", "5..4", "5..3", "5..0", "5..-5", "5..-7", "0..1", "0..0", "0..-2", "-1..0", "-1..-1", "-1..-3",
        "-3..-5", "-3..-2", NINES_TEXT + ".." + NINES_TEXT, GREAT_TEXT + ".." + great_text(1),
        NINES_TEXT + "..-" + NINES_TEXT, "-" + GREAT_TEXT + "..-" + great_text(2),
    ],
    "no A or no B": ["5..", "..5", "..", "-5..", "..-5", "-..5", "5..-"],
    "more than one x": ["5x3x3", "5xx3", "x5x3", "5x3x", "xx", "5x3x3x3", "x5x3x"],
    "more than one ..": ["1..3..5", "1....5", "..1..5", "1..5..", "....", "1..3..", "1..5..9..12"],
    "x and .. together": ["1..3x3", "3x3..5", "1x3..5", "1..x3", "1x..3", "x..", "..x", "1..3x", "x1..3", "1x3..5x3"],
    "points": ["1.3", "1...3", "1...5", "1. .3", ".", "...", "1.", ".1", "1..3.", ".1..3", "1.x3", "1x.3"],
    "other signs": ["5X3", "5*3", "5\u00d73", "1-3", "1:3", "1\u20263", "1,2,3", "(1)", "[1]", "1;2", "'1'", "1/2", "1=1"],
    "two blanks": ["1  2", "1 2  3", "5x3  1", "1..3  5", "1   2", "1 2 3  4"],
    "a blank at an end": [" 1", "1 ", " 1 ", " 5x3", "5x3 ", " 1..3", "1..3 ", "1 2 ", " 1 2", "  1", "1  "],
    "blanks alone": [" ", "  ", "   "],
    "a blank within a part": ["5 x3", "5x 3", "5 x 3", "1 ..3", "1.. 3", "1 .. 3", "1. .3", "- 5", "-5 x3", "1..- 3"],
    "other white space between": [
        "1\t2", "1\n2", "1\r2", "1\r\n2", "1\x0b2", "1\x0c2", "1\u00a02", "1\u20032", "1\u30002", "1\x852", "1 \t2",
    ],
    "a line's end": ["1\n", "\n", "5x3\n", "1..3\n", "\n1", "\n5x3", "\n1..3", "1 2\n", "\t", "1\t", "5x3\t", "5x\n3"],
    "a number not as in point 2": [words for words in NO_NUMBERS if words != ""],
    "a number not as in point 2, ahead of x": [words + "x3" for words in NO_NUMBERS],
    "a number not as in point 2, behind x": ["5x" + words for words in NO_NUMBERS],
    "a number not as in point 2, ahead of ..": [words + "..99" for words in NO_NUMBERS],
    "a number not as in point 2, behind ..": ["-99.." + words for words in NO_NUMBERS],
    "a wrong part among right ones": [
        "5x2 1", "1 5x2", "1 5x2 1", "1..3 5..6", "5..6 1..3", "5x3 01", "01 5x3", "1 -0 1", "1 2 x", "x 1 2", "1 + 2",
    ],
    "a wrong part behind a very great one": ["1x" + NINES_TEXT + " 01", "0.." + NINES_TEXT + " 5x2", "1x9999999999 ?"],
}

PATTERN = re.compile(r"(0|-?[1-9][0-9]*)(?:x([1-9][0-9]*)|\.\.(0|-?[1-9][0-9]*))?", re.ASCII)


def parts_by_pattern(line):
    """The parts by a pattern, or None where the text is no row's."""
    parts = []
    for words in line.split(" ") if line else []:
        match = PATTERN.fullmatch(words)
        if match is None:
            return None
        first = int(match[1])
        if match[2] is not None:
            if int(match[2]) < 3:
                return None
            parts.append(("same", first, int(match[2])))
        elif match[3] is not None:
            if int(match[3]) < first + 2:
                return None
            parts.append(("rise", first, int(match[3])))
        else:
            parts.append(("one", first))
    return parts


def packed_by_stretches(row):
    """Point 4 said another way: at each place the longest stretch of a kind, equal ones first."""
    if not row:
        return []
    for many in range(len(row), 2, -1):
        if row[:many] == [row[0]] * many:
            return [f"{row[0]}x{many}"] + packed_by_stretches(row[many:])
    for many in range(len(row), 2, -1):
        if row[:many] == list(range(row[0], row[0] + many)):
            return [f"{row[0]}..{row[many - 1]}"] + packed_by_stretches(row[many:])
    return [str(row[0])] + packed_by_stretches(row[1:])


RUNS = list(itertools.product((-1, 0, 1, 2), (1, 2, 3, 4), (0, 1)))


def row_of_runs(start, runs):
    row = [start]
    for jump, many, step in runs:
        first = row[-1] + jump
        row.extend(first + step * place for place in range(many))
    return row


def rows_of_runs():
    """Rows of runs that touch: short ones from great starts and small, and long ones."""
    for runs in itertools.product(RUNS, repeat=3):
        yield row_of_runs(-3, runs)
    for start in (0, -NINES, -GREAT - 4, NINES, 10 ** 18 - 2):
        for runs in itertools.product(RUNS, repeat=2):
            yield row_of_runs(start, runs)
    for stride in range(1, 32):
        yield row_of_runs(-40, [RUNS[place * place * stride % 31] for place in range(200)])


class TestPacked(unittest.TestCase):
    def test_texts_written_out(self):
        for row, line, _ in PACKED:
            with self.subTest(line=line[:30]):
                self.assertEqual(packed(row), line)

    def test_untidy_ones_are_packed_to_another_text(self):
        for line, _, row in UNTIDY:
            with self.subTest(line=line[:30]):
                self.assertNotEqual(packed(row), line)

    def test_every_row_of_few_numbers(self):
        for many in range(0, 8):
            for numbers in itertools.product((-1, 0, 1, 2), repeat=many):
                row = list(numbers)
                self.assertEqual(packed(row), " ".join(packed_by_stretches(row)), row)

    def test_five_hundred_numbers_and_somewhat_more(self):
        for many in (499, 500, 501, 700, 5000):
            with self.subTest(many=many):
                self.assertEqual(packed([-4] * many), f"-4x{many}")
                self.assertEqual(packed(list(range(-4, many - 4))), f"-4..{many - 5}")
                falling = list(range(many, 0, -1))
                self.assertEqual(packed(falling), " ".join(str(number) for number in falling))

    def test_five_hundred_numbers_of_a_thousand_figures(self):
        row = [NINES - 2 * place for place in range(500)]
        line = " ".join("9" * 996 + str(9999 - 2 * place).zfill(4) for place in range(500))
        self.assertEqual(packed(row), line)
        self.assertEqual(read(line), row)

    def test_the_row_stays_as_it_was(self):
        for row, _, _ in PACKED:
            before = list(row)
            packed(row)
            self.assertEqual(row, before)

    def test_it_is_a_text(self):
        for row in ([], [1], [1, 1, 1], [1, 2, 3]):
            self.assertIs(type(packed(row)), str)


class TestPartsOf(unittest.TestCase):
    def test_parts_written_out(self):
        for _, line, parts in PACKED:
            with self.subTest(line=line[:30]):
                self.assertEqual(parts_of(line), parts)

    def test_parts_that_could_be_written_shorter(self):
        for line, parts, _ in UNTIDY:
            with self.subTest(line=line[:30]):
                self.assertEqual(parts_of(line), parts)

    def test_parts_that_stand_for_very_many(self):
        self.assertEqual(parts_of("-5x" + NINES_TEXT), [("same", -5, NINES)])
        self.assertEqual(parts_of("-" + NINES_TEXT + ".." + NINES_TEXT), [("rise", -NINES, NINES)])

    def test_kinds(self):
        parts = parts_of("1 2x3 4..6")
        self.assertIs(type(parts), list)
        self.assertEqual([type(part) for part in parts], [tuple, tuple, tuple])
        self.assertEqual([type(value) for part in parts for value in part], [str, int, str, int, int, str, int, int])
        self.assertIs(type(parts_of("")), list)

    def test_what_is_given_back_may_be_changed(self):
        for line in ("", "1 2x3 4..6"):
            before = list(parts_of(line))
            parts_of(line).append(("one", 1))
            self.assertEqual(parts_of(line), before)


class TestRead(unittest.TestCase):
    def test_rows_written_out(self):
        for row, line, _ in PACKED:
            with self.subTest(line=line[:30]):
                self.assertEqual(read(line), row)

    def test_rows_of_texts_that_could_be_written_shorter(self):
        for line, _, row in UNTIDY:
            with self.subTest(line=line[:30]):
                self.assertEqual(read(line), row)

    def test_the_least_that_a_part_may_stand_for(self):
        self.assertEqual(read("5x3"), [5, 5, 5])
        self.assertEqual(read("5..7"), [5, 6, 7])
        self.assertEqual(read("-2..0"), [-2, -1, 0])

    def test_what_is_packed_is_read_again(self):
        for row in rows_of_runs():
            self.assertEqual(read(packed(row)), row)

    def test_every_row_of_few_numbers_is_read_again(self):
        for many in range(0, 8):
            for numbers in itertools.product((-1, 0, 1, 2), repeat=many):
                self.assertEqual(read(packed(list(numbers))), list(numbers))

    def test_five_hundred_parts_and_somewhat_more(self):
        for many in (499, 500, 501, 700, 5000):
            with self.subTest(many=many):
                self.assertEqual(read(" ".join(["3", "-1x3", "0..2"] * many)), [3, -1, -1, -1, 0, 1, 2] * many)

    def test_kinds(self):
        for line in ("", "1", "1x3", "1..3"):
            self.assertIs(type(read(line)), list)
            self.assertEqual([kind for kind in map(type, read(line)) if kind is not int], [])

    def test_what_is_given_back_may_be_changed(self):
        for line in ("", "1 2x3 4..6"):
            before = list(read(line))
            read(line).append(1)
            self.assertEqual(read(line), before)


class TestIsTidy(unittest.TestCase):
    def test_what_is_packed_is_tidy(self):
        for _, line, _ in PACKED:
            with self.subTest(line=line[:30]):
                self.assertIs(is_tidy(line), True)

    def test_what_could_be_written_otherwise_is_not(self):
        for line, _, _ in UNTIDY:
            with self.subTest(line=line[:30]):
                self.assertIs(is_tidy(line), False)

    def test_what_cannot_be_read_is_not(self):
        for what, lines in REFUSED.items():
            for line in lines:
                with self.subTest(what=what, line=ascii(line[:30])):
                    self.assertIs(is_tidy(line), False)

    def test_every_text_of_few_parts(self):
        some = "-1 0 1 2 3 0x3 1x3 1x4 2x3 3x5 -2..0 -1..1 0..2 1..3 2..5".split()
        tidy = 0
        for many in range(0, 5):
            for words in itertools.product(some, repeat=many):
                line = " ".join(words)
                self.assertIs(is_tidy(line), packed(read(line)) == line, line)
                tidy += is_tidy(line)
        self.assertGreater(tidy, 1000)

    def test_what_is_packed_of_many_rows_is_tidy(self):
        for row in rows_of_runs():
            self.assertIs(is_tidy(packed(row)), True)

    def test_parts_that_stand_for_very_many(self):
        tidy = [
            "5x" + NINES_TEXT, "0.." + NINES_TEXT, "-" + NINES_TEXT + ".." + NINES_TEXT, "5x" + NINES_TEXT + " 4",
            "5 4x" + NINES_TEXT, "5 5 4x" + NINES_TEXT, "0.." + GREAT_TEXT + " " + great_text(2), "0 0.." + NINES_TEXT,
            "0.." + GREAT_TEXT + " " + GREAT_TEXT + "x" + NINES_TEXT, "5x1000000000000000000 6x1000000000000000000",
        ]
        untidy = [
            "5x" + NINES_TEXT + " 5", "5 5x" + NINES_TEXT, "5x" + NINES_TEXT + " 5x" + NINES_TEXT,
            "-1 0.." + NINES_TEXT, "0.." + GREAT_TEXT + " " + great_text(1), "4 4 4.." + NINES_TEXT,
            "0.." + GREAT_TEXT + " " + great_text(1) + "x" + NINES_TEXT, "3 4 5x" + NINES_TEXT,
            "0.." + GREAT_TEXT + " " + great_text(1) + ".." + NINES_TEXT, "5x1000000000000000000 5",
        ]
        for line in tidy:
            with self.subTest(line=line[:30]):
                self.assertIs(is_tidy(line), True)
        for line in untidy:
            with self.subTest(line=line[:30]):
                self.assertIs(is_tidy(line), False)

    def test_five_hundred_parts_and_somewhat_more(self):
        for many in (500, 501, 5000):
            line = " ".join(["5", "-1x3", "0..2"] * many)
            self.assertIs(is_tidy(line + " 9"), True)
            self.assertIs(is_tidy(line + " 9 9 9"), False)


class TestManyIn(unittest.TestCase):
    def test_as_many_as_are_in_the_row(self):
        for row, line, _ in PACKED:
            with self.subTest(line=line[:30]):
                self.assertEqual(many_in(line), len(row))

    def test_as_many_as_are_in_the_row_that_could_be_written_shorter(self):
        for line, _, row in UNTIDY:
            with self.subTest(line=line[:30]):
                self.assertEqual(many_in(line), len(row))

    def test_numbers_written_out(self):
        for line, many in (("", 0), ("5", 1), ("5 5", 2), ("5x3", 3), ("5x17", 17), ("5..7", 3), ("-3..3", 7),
                           ("-9..-7", 3), ("1 2x3 4..9 0", 11)):
            with self.subTest(line=line):
                self.assertEqual(many_in(line), many)

    def test_very_many_are_not_written_out(self):
        for line, many in (
            ("5x" + NINES_TEXT, NINES),
            ("0.." + NINES_TEXT, NINES + 1),
            ("-" + NINES_TEXT + ".." + NINES_TEXT, 2 * NINES + 1),
            ("5x1000000000000000000", 10 ** 18),
            ("1..1000000000000000000", 10 ** 18),
            ("1 5x" + NINES_TEXT + " -" + NINES_TEXT + ".." + NINES_TEXT + " 2", 3 * NINES + 3),
            (" ".join(["5x" + NINES_TEXT] * 500), 500 * NINES),
        ):
            with self.subTest(line=line[:30]):
                self.assertEqual(many_in(line), many)

    def test_it_is_a_whole_number(self):
        for line in ("", "1", "1x3", "1..3"):
            self.assertIs(type(many_in(line)), int)


class TestRefusals(unittest.TestCase):
    def test_each_is_refused_with_no_row(self):
        for function in (read, parts_of, many_in):
            for what, lines in REFUSED.items():
                for line in lines:
                    with self.subTest(function=function.__name__, what=what, line=ascii(line[:30])):
                        with self.assertRaises(NoRow):
                            function(line)

    def test_no_number_is_not_what_comes_out(self):
        for function in (read, parts_of, many_in):
            with self.assertRaises(NoRow) as caught:
                function("1 02")
            self.assertNotIsInstance(caught.exception, NoNumber)

    def test_every_short_text_of_some_signs(self):
        for many in range(0, 7):
            for signs in itertools.product("-03x. ", repeat=many):
                self.check("".join(signs))

    def test_every_short_text_of_some_longer_bits(self):
        for many in range(0, 6):
            for bits in itertools.product(("1", "2", "3", "-", "x", "..", " "), repeat=many):
                self.check("".join(bits))

    def test_every_sign_at_each_place_of_a_part(self):
        for code in itertools.chain(range(0x0, 0x3000), range(0xFF00, 0x10000), range(0x1D7CE, 0x1D800)):
            sign = chr(code)
            for line in ("1" + sign + "4", "4x3" + sign, sign + "4x3", "1..4" + sign, sign + "1..4", "1.." + sign + "4"):
                self.check(line)

    def check(self, line):
        parts = parts_by_pattern(line)
        if parts is None:
            with self.assertRaises(NoRow, msg=ascii(line)):
                parts_of(line)
            self.assertIs(is_tidy(line), False, ascii(line))
        else:
            self.assertEqual(parts_of(line), parts, ascii(line))


class TestTheWhole(unittest.TestCase):
    def test_the_arguments_are_called_as_in_the_interface(self):
        self.assertEqual(list(inspect.signature(packed).parameters), ["row"])
        for function in (parts_of, read, is_tidy, many_in):
            self.assertEqual(list(inspect.signature(function).parameters), ["line"])

    def test_a_thousand_figures_whatever_python_is_set_to(self):
        self.addCleanup(sys.set_int_max_str_digits, sys.get_int_max_str_digits())
        # The least that Python lets anyone set.
        sys.set_int_max_str_digits(640)
        for row, line, parts in PACKED:
            with self.subTest(line=line[:30]):
                self.assertEqual(packed(row), line)
                self.assertEqual(parts_of(line), parts)
                self.assertEqual(read(line), row)
                self.assertIs(is_tidy(line), True)
        self.assertEqual(many_in("5x" + NINES_TEXT), NINES)
        with self.assertRaises(NoRow):
            read("5x0" + NINES_TEXT)

    def test_somewhat_more_than_a_thousand_figures(self):
        for figures in (1001, 1500, 5000):
            number = 10 ** figures - 2
            words = "9" * (figures - 1) + "8"
            with self.subTest(figures=figures):
                self.assertEqual(packed([-number] * 3 + [number]), "-" + words + "x3 " + words)
                self.assertEqual(read("-" + words + "x3 " + words), [-number] * 3 + [number])
                self.assertEqual(many_in("0.." + words + " 7x" + words), 2 * number + 1)
                self.assertIs(is_tidy("0.." + words + " 7x" + words), True)


if __name__ == "__main__":
    unittest.main()
