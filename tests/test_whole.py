"""Promise 8, its second half: whole."""

import unittest

from tests import helper
from tilewise.sheets import halve, whole

END = 1048576


def fits(row):
    return all(-END <= number <= END for number in row)


class ByHand(unittest.TestCase):
    def test_rows_that_halve_is_tested_with(self):
        for row, halved in helper.ROWS_BY_HAND:
            if fits(halved):
                with self.subTest(halved=halved):
                    self.assertEqual(whole(halved), [0] + row)

    def test_other_rows(self):
        # The means come first: from them and the differences the even places, then the odd ones.
        for halved, row in (([0, 0], [0, 0]),
                            ([5, 4], [3, 7]),  # 5 - 10/4 = 3; 4 + 6/2 = 7
                            ([5, -4], [7, 3]),  # 5 - -6/4 = 5 + 2; -4 + 14/2
                            ([1, 2, 3], [-1, 2, 0]),  # 8/4 = 2: -1 and 0; 3 + -1/2 = 3 - 1
                            ([1, 2, 3, 4], [-1, 2, 0, 4]),  # 1 - 8/4, 2 - 9/4 = 2 - 2; 3 + -1/2 = 3 - 1, 4 + 0
                            ([-3, -5, 0], [-3, -4, -5]),  # 2/4 = 0; 0 + -8/2
                            ([0, 0, -1], [0, -1, 0]),  # 0/4 = 0; -1 + 0
                            ):
            with self.subTest(halved=halved):
                self.assertEqual(whole(halved), [0] + row)
                self.assertEqual(halve(row), [0] + halved)

    def test_both_ends_side_by_side(self):
        # Of 1048576, -1048576: -1048576 is the difference, and -2097150/4 is -524288, rounded down;
        # 1048576 + 524288 = 1572864, and -1048576 + 1572864 = 524288.
        self.assertEqual(whole([END, -END]), [0, 1572864, 524288])
        # 2097154/4 = 524288; -1048576 - 524288 = -1572864, and 1048576 - 1572864 = -524288.
        self.assertEqual(whole([-END, END]), [0, -1572864, -524288])


class Right(unittest.TestCase):
    def check(self, row):
        answered = whole(row)
        self.assertEqual(answered, [0] + helper.whole(row))
        # What is answered may lie beyond what halve takes: then the document's own steps halve it again.
        self.assertEqual(helper.halve(answered[1:]), row)
        if fits(answered[1:]):
            self.assertEqual(halve(answered[1:]), [0] + row)

    def check_back(self, row):
        halved = halve(row)[1:]
        if fits(halved):
            self.assertEqual(whole(halved), [0] + row)
        else:
            self.assertEqual(whole(halved), [-8])

    def test_all_rows(self):
        within = 0
        for row in helper.rows():
            self.check(row)
            self.check_back(row)
            within += fits(halve(row)[1:])
        self.assertGreater(within, 250)

    def test_every_length(self):
        for length in range(1, 257):
            row = [number - 500 for number in helper.spread(length, 1000, length)]
            self.check(row)
            self.check_back(row)
            self.assertEqual(len(whole(row)), length + 1)

    def test_every_short_row_of_small_numbers(self):
        values = range(-4, 5)
        for first in values:
            for second in values:
                self.check([first, second])
                self.check_back([first, second])
                for third in values:
                    self.check([first, second, third])
                    self.check_back([first, second, third])
                    self.check([first, second, third, -first])
                    self.check_back([second, first, -third, third])

    def test_different_rows_are_halved_from_different_ones(self):
        seen = {tuple(whole([a, b, c])) for a in range(-5, 6) for b in range(-5, 6) for c in range(-5, 6)}
        self.assertEqual(len(seen), 11 ** 3)

    def test_rows_of_one_stay(self):
        for number in (0, 1, -1, 65535, END, -END):
            self.assertEqual(whole([number]), [0, number])


class Wrong(unittest.TestCase):
    def test_wrong_rows(self):
        for row in helper.wrong_rows():
            self.assertEqual(whole(row), [-8])

    def test_ends_of_the_ranges_are_in(self):
        self.assertEqual(whole([0] * 256), [0] * 257)
        self.assertEqual(whole([END]), [0, END])
        self.assertEqual(whole([-END, 0]), [0, -END, -END])


if __name__ == "__main__":
    unittest.main()
