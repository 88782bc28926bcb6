"""Promise 8, its first half: halve."""

import unittest

from tests import helper
from tilewise.sheets import halve

FAR = 2147483647
END = 1048576


class ByHand(unittest.TestCase):
    """Rows worked out by hand from the document: the row, what it is halved, and how."""

    def test_rows(self):
        for row, halved in helper.ROWS_BY_HAND:
            with self.subTest(row=row):
                self.assertEqual(halve(row), [0] + halved)


class Right(unittest.TestCase):
    def test_all_rows(self):
        for row in helper.rows():
            self.assertEqual(halve(row), [0] + helper.halve(row))

    def test_every_length(self):
        for length in range(1, 257):
            row = [number - 500 for number in helper.spread(length, 1000, length)]
            answered = halve(row)
            self.assertEqual(answered, [0] + helper.halve(row))
            self.assertEqual(len(answered), length + 1)

    def test_rows_of_one_stay(self):
        for number in (0, 1, -1, 65535, END, -END):
            self.assertEqual(halve([number]), [0, number])

    def test_the_same_number_throughout(self):
        for number in (0, 7, -7, END, -END):
            for length in (2, 3, 255, 256):
                means = (length + 1) // 2
                self.assertEqual(halve([number] * length), [0] + [number] * means + [0] * (length - means))


class Wrong(unittest.TestCase):
    def test_no_numbers_and_too_many(self):
        self.assertEqual(halve([]), [-8])
        for length in (257, 258, 300):
            self.assertEqual(halve([0] * length), [-8])
        self.assertEqual(halve([0] * 256), [0] * 257)

    def test_numbers_out_of_range(self):
        for value in (-END - 1, END + 1, -FAR - 1, FAR):
            self.assertEqual(halve([value]), [-8])
            for length in (2, 3, 256):
                for place in (0, 1, length - 1):
                    row = [5] * length
                    row[place] = value
                    self.assertEqual(halve(row), [-8])


if __name__ == "__main__":
    unittest.main()
