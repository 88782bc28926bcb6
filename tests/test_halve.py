"""Promise 8, its first half: halve."""

import unittest

from tests import helper
from tilewise.sheets import halve

END = 1048576


class ByHand(unittest.TestCase):
    def test_rows(self):
        for row, halved in helper.ROWS_BY_HAND:
            with self.subTest(row=row):
                self.assertEqual(halve(row), [0] + halved)


class Right(unittest.TestCase):
    def test_all_rows(self):
        for row in helper.rows():
            self.assertEqual(halve(row), [0] + helper.halve(row))

    def test_every_length(self):
        for length in range(1, 257):
            row = [number - 500 for number in helper.spread(length, 1000, length)]
            answered = halve(row)
            self.assertEqual(answered, [0] + helper.halve(row))
            self.assertEqual(len(answered), length + 1)

    def test_rows_of_one_stay(self):
        for number in (0, 1, -1, 65535, END, -END):
            self.assertEqual(halve([number]), [0, number])

    def test_the_same_number_throughout(self):
        for number in (0, 7, -7, END, -END):
            for length in (2, 3, 255, 256):
                means = (length + 1) // 2
                self.assertEqual(halve([number] * length), [0] + [number] * means + [0] * (length - means))


class Wrong(unittest.TestCase):
    def test_wrong_rows(self):
        for row in helper.wrong_rows():
            self.assertEqual(halve(row), [-8])

    def test_ends_of_the_ranges_are_in(self):
        self.assertEqual(halve([0] * 256), [0] * 257)
        self.assertEqual(halve([END]), [0, END])
        self.assertEqual(halve([-END, -END]), [0, -END, 0])


if __name__ == "__main__":
    unittest.main()
