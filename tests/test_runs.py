import inspect
import itertools
import unittest

from rowpack.runs import rising_from, same_from

GREAT = 10 ** 1000 - 1

# A row, a place, how many are the same from there, how many rise from there.
WRITTEN = [
    ([5], 0, 1, 1),
    ([0], 0, 1, 1),
    ([-5], 0, 1, 1),
    ([5, 5], 0, 2, 1),
    ([5, 5], 1, 1, 1),
    ([5, 6], 0, 1, 2),
    ([5, 6], 1, 1, 1),
    ([6, 5], 0, 1, 1),
    ([5, 7], 0, 1, 1),
    ([5, 5, 5], 0, 3, 1),
    ([5, 5, 5], 1, 2, 1),
    ([5, 5, 5], 2, 1, 1),
    ([5, 6, 7], 0, 1, 3),
    ([5, 6, 7], 1, 1, 2),
    ([5, 6, 7], 2, 1, 1),
    ([7, 6, 5], 0, 1, 1),
    ([1, 3, 5], 0, 1, 1),
    ([1, 1, 1, 2, 3], 0, 3, 1),
    ([1, 1, 1, 2, 3], 2, 1, 3),
    ([1, 2, 3, 3, 3], 0, 1, 3),
    ([1, 2, 3, 3, 3], 2, 3, 1),
    ([-2, -1, 0, 1, 2], 0, 1, 5),
    ([-2, -1, 0, 1, 2], 2, 1, 3),
    ([-1, 1], 0, 1, 1),
    ([-1, -2, -3], 0, 1, 1),
    ([-3, -3, -2], 0, 2, 1),
    ([0, 0, 0, 0], 0, 4, 1),
    ([4, 4, 9, 4, 4], 0, 2, 1),
    ([4, 5, 9, 6, 7], 0, 1, 2),
    ([9, 4, 4, 4], 1, 3, 1),
    ([9, 4, 5, 6], 1, 1, 3),
    ([3, 4, 5, 6], 1, 1, 3),
    ([4, 4, 4, 4], 1, 3, 1),
    ([GREAT, GREAT, GREAT], 0, 3, 1),
    ([GREAT - 2, GREAT - 1, GREAT, GREAT + 1], 0, 1, 4),
    ([-GREAT, -GREAT + 1, -GREAT + 2, -GREAT + 2], 0, 1, 3),
    ([GREAT, -GREAT], 0, 1, 1),
]


class TestRuns(unittest.TestCase):
    def test_same_written_out(self):
        for row, at, same, _ in WRITTEN:
            with self.subTest(row=row[:1], many=len(row), at=at):
                self.assertEqual(same_from(row, at), same)

    def test_rising_written_out(self):
        for row, at, _, rising in WRITTEN:
            with self.subTest(row=row[:1], many=len(row), at=at):
                self.assertEqual(rising_from(row, at), rising)

    def test_equal_numbers_that_are_not_one_object(self):
        row = [10 ** 30 + step - step for step in range(1, 6)]
        self.assertEqual(same_from(row, 0), 5)

    def test_each_row_of_few_numbers_at_each_place(self):
        for many in range(1, 7):
            for numbers in itertools.product((-1, 0, 1, 2), repeat=many):
                row = list(numbers)
                for at in range(many):
                    self.check(row, at)

    def check(self, row, at):
        # The longest stretch from the place that is what the document says.
        stretches = [row[at:end] for end in range(at + 1, len(row) + 1)]
        same = [len(some) for some in stretches if some == [some[0]] * len(some)]
        rising = [len(some) for some in stretches if some == list(range(some[0], some[0] + len(some)))]
        self.assertEqual(same_from(row, at), max(same), (row, at))
        self.assertEqual(rising_from(row, at), max(rising), (row, at))

    def test_five_hundred_and_more(self):
        for many in (500, 501, 5000):
            self.assertEqual(same_from([7] * many, 0), many)
            self.assertEqual(same_from([7] * many, many - 1), 1)
            self.assertEqual(rising_from(list(range(-9, many - 9)), 0), many)
            self.assertEqual(rising_from(list(range(-9, many - 9)), 100), many - 100)

    def test_the_row_stays_as_it_was(self):
        for row, at, _, _ in WRITTEN:
            before = list(row)
            same_from(row, at)
            rising_from(row, at)
            self.assertEqual(row, before)

    def test_what_is_given_back_is_a_whole_number(self):
        self.assertIs(type(same_from([1], 0)), int)
        self.assertIs(type(rising_from([1], 0)), int)

    def test_the_arguments_are_called_as_in_the_interface(self):
        for function in (same_from, rising_from):
            self.assertEqual(list(inspect.signature(function).parameters), ["row", "at"])


if __name__ == "__main__":
    unittest.main()
