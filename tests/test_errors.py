import unittest

from rowpack.errors import NoNumber, NoRow, PackError


class TestErrors(unittest.TestCase):
    def test_each_stands_right_under_the_one_the_interface_names(self):
        self.assertEqual(PackError.__bases__, (ValueError,))
        self.assertEqual(NoNumber.__bases__, (PackError,))
        self.assertEqual(NoRow.__bases__, (PackError,))

    def test_the_two_refusals_are_told_apart(self):
        self.assertFalse(issubclass(NoNumber, NoRow))
        self.assertFalse(issubclass(NoRow, NoNumber))

    def test_each_can_be_raised_with_words(self):
        for kind in (PackError, NoNumber, NoRow):
            with self.subTest(kind=kind.__name__):
                with self.assertRaises(kind) as caught:
                    raise kind("some words")
                self.assertEqual(str(caught.exception), "some words")


if __name__ == "__main__":
    unittest.main()
