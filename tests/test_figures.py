import itertools
import re
import sys
import unittest

from rowpack.errors import NoNumber, PackError
from rowpack.figures import number_of, shown

# Numbers beside their texts, both written out.
WRITTEN = [
    (0, "0"),
    (1, "1"), (2, "2"), (3, "3"), (4, "4"), (5, "5"), (6, "6"), (7, "7"), (8, "8"), (9, "9"),
    (-1, "-1"), (-9, "-9"),
    (10, "10"), (-10, "-10"), (11, "11"), (99, "99"), (100, "100"), (101, "101"), (-101, "-101"),
    (1234567890, "1234567890"), (-9876543210, "-9876543210"),
    (1000, "1000"), (-1000, "-1000"), (7000300, "7000300"), (-50060, "-50060"),
    (99999999, "99999999"), (100000000, "100000000"),
    (999999999, "999999999"), (1000000000, "1000000000"), (1000000001, "1000000001"),
    (-999999999, "-999999999"), (-1000000000, "-1000000000"), (-1000000001, "-1000000001"),
    (999999999999999999, "999999999999999999"), (1000000000000000000, "1000000000000000000"),
    (1000000001000000001, "1000000001000000001"), (5000000000000000007, "5000000000000000007"),
    (-123000000000000000000456, "-123000000000000000000456"),
]


def long_ones(many):
    # Built by counting, so that nothing here leans on Python's own turning of texts.
    return [
        (10 ** (many - 1), "1" + "0" * (many - 1)),
        (10 ** many - 1, "9" * many),
        (7 * 10 ** (many - 1) + 7, "7" + "0" * (many - 2) + "7"),
        ((10 ** many - 1) // 9, "1" * many),
        (10 ** (many - 1) + 10 ** (many // 2), "1" + "0" * (many - many // 2 - 2) + "1" + "0" * (many // 2)),
    ]


def with_both_signs(pairs):
    return pairs + [(-number, "-" + words) for number, words in pairs]


THOUSAND = with_both_signs(long_ones(1000))
BEYOND = with_both_signs(long_ones(1001) + long_ones(1500) + long_ones(5000))

NO_NUMBERS = {
    "the empty text": [""],
    "a sign alone": ["-", "+"],
    "a nought ahead": ["00", "01", "007", "000", "0" * 1000, "0" + "9" * 999, "00000000001"],
    "a nought ahead, below nought": ["-00", "-01", "-007", "-0" + "9" * 999],
    "nought with a sign": ["-0", "+0"],
    "a plus ahead": ["+1", "+12", "+" + "1" * 1000],
    "two signs": ["--1", "-+1", "+-1", "++1", "--", "--0"],
    "a sign behind": ["1-", "1+", "0-", "-1-"],
    "a sign within": ["1-2", "1+2", "12-34", "-1-2", "0-1"],
    "a blank ahead": [" 1", " 0", " -1", "  12", "- 1"],
    "a blank within": ["1 2", "-1 2", "1  2", "123456789 123456789"],
    "a blank behind": ["1 ", "0 ", "-1 ", "12  "],
    "blanks alone": [" ", "  "],
    "letters": ["a", "1a", "a1", "1a2", "x", "0x10", "0b1", "0o7", "1e3", "1E3", "ten", "-a", "1L", "nan", "inf"],
    "a point": [".", "1.", ".1", "1.0", "-1.5", "0.0", "1..3"],
    "a comma": ["1,000", ","],
    "an underscore": ["1_0", "1_000", "_1", "1_", "-1_0", "_"],
    "a line's end": ["1\n", "\n1", "\n", "1\r", "1\r\n", "1\n2", "0\n", "-1\n", "1\u2028", "1\x85"],
    "other white space": ["1\t", "\t1", "\x0b1", "1\x0c", "\u00a01", "1\u2003", "\u30001"],
    "nothing to be seen": ["1\x00", "\x001", "\ufeff1", "1\u200b", "\u200e1"],
    "figures of other scripts": [
        "\u0661", "\u0660", "1\u0662", "\u06613", "-\u0663", "\u0967", "\u09e7", "\u0e51", "\uff11", "1\uff10",
        "\uff11\uff12", "\u4e00", "\u2160", "\U0001d7d8", "\U0001d7cf", "1\U0001d7ce",
    ],
    "figures raised, lowered, ringed, broken": ["\u00b2", "1\u00b2", "\u00b9", "\u2074", "\u2081", "\u2460", "\u00bd"],
    "another dash": ["\u22121", "\u20131", "\u20141", "\u00ad1", "\uff0d1", "\u20101"],
    "half a sign": ["\ud800", "1\udc00"],
    "a wrong sign deep in a long text": ["1" * 500 + "a" + "1" * 499, "1" * 999 + "_", "1" * 500 + "\u0661" + "1" * 499],
}


class TestShown(unittest.TestCase):
    def test_texts_written_out(self):
        for number, words in WRITTEN:
            with self.subTest(words=words):
                self.assertEqual(shown(number), words)

    def test_a_thousand_figures(self):
        for number, words in THOUSAND:
            with self.subTest(words=words[:4]):
                self.assertEqual(shown(number), words)

    def test_somewhat_more_than_a_thousand_figures(self):
        for number, words in BEYOND:
            with self.subTest(words=words[:4], many=len(words)):
                self.assertEqual(shown(number), words)

    def test_every_length_up_to_a_thousand(self):
        for many in range(1, 1001):
            self.assertEqual(shown(10 ** many), "1" + "0" * many)
            self.assertEqual(shown(1 - 10 ** many), "-" + "9" * many)

    def test_it_is_a_text(self):
        self.assertIs(type(shown(5)), str)


class TestNumberOf(unittest.TestCase):
    def test_numbers_written_out(self):
        for number, words in WRITTEN:
            with self.subTest(words=words):
                self.assertEqual(number_of(words), number)

    def test_a_thousand_figures(self):
        for number, words in THOUSAND:
            with self.subTest(words=words[:4]):
                self.assertEqual(number_of(words), number)

    def test_somewhat_more_than_a_thousand_figures(self):
        for number, words in BEYOND:
            with self.subTest(words=words[:4], many=len(words)):
                self.assertEqual(number_of(words), number)

    def test_every_length_up_to_a_thousand(self):
        for many in range(1, 1001):
            self.assertEqual(number_of("1" + "0" * many), 10 ** many)
            self.assertEqual(number_of("-" + "9" * many), 1 - 10 ** many)

    def test_it_is_a_whole_number(self):
        for words in ("0", "1", "-1"):
            self.assertIs(type(number_of(words)), int)

    def test_what_is_shown_is_read_again(self):
        numbers = list(range(-2000, 2001)) + [number for number, words in WRITTEN + THOUSAND + BEYOND]
        numbers += [7 ** power for power in range(0, 1200, 13)] + [-(3 ** power) for power in range(0, 2100, 17)]
        for number in numbers:
            self.assertEqual(number_of(shown(number)), number)


class TestNoNumber(unittest.TestCase):
    def test_each_text_that_is_no_number_is_refused(self):
        for what, texts in NO_NUMBERS.items():
            for words in texts:
                with self.subTest(what=what, words=ascii(words[:20])):
                    with self.assertRaises(NoNumber):
                        number_of(words)

    def test_the_refusal_is_a_pack_error_and_a_value_error(self):
        for kind in (PackError, ValueError):
            with self.assertRaises(kind) as caught:
                number_of("-0")
            self.assertIs(type(caught.exception), NoNumber)

    def test_every_short_text_of_some_signs(self):
        # The pattern is the document's sentence said another way.
        pattern = re.compile(r"0|-?[1-9][0-9]*", re.ASCII)
        for many in range(0, 6):
            for signs in itertools.product("-+019_ ", repeat=many):
                self.check("".join(signs), pattern)

    def test_every_sign_alone_ahead_within_and_behind(self):
        pattern = re.compile(r"0|-?[1-9][0-9]*", re.ASCII)
        for code in itertools.chain(range(0x0, 0x3000), range(0xFF00, 0x10000), range(0x1D7CE, 0x1D800)):
            sign = chr(code)
            for words in (sign, sign + "1", "1" + sign, "1" + sign + "1", "-" + sign):
                self.check(words, pattern)

    def check(self, words, pattern):
        try:
            number = number_of(words)
        except NoNumber:
            self.assertIsNone(pattern.fullmatch(words), ascii(words))
        else:
            self.assertIsNotNone(pattern.fullmatch(words), ascii(words))
            self.assertEqual(number, int(words))


class TestPythonsOwnBound(unittest.TestCase):
    def setUp(self):
        self.addCleanup(sys.set_int_max_str_digits, sys.get_int_max_str_digits())
        # The least that Python lets anyone set.
        sys.set_int_max_str_digits(640)

    def test_a_thousand_figures_whatever_python_is_set_to(self):
        for number, words in THOUSAND:
            with self.subTest(words=words[:4]):
                self.assertEqual(shown(number), words)
                self.assertEqual(number_of(words), number)

    def test_a_long_wrong_text_is_still_refused_with_no_number(self):
        with self.assertRaises(NoNumber):
            number_of("0" + "1" * 999)


if __name__ == "__main__":
    unittest.main()
