"""Promise 3: head."""

import unittest

from tests import helper
from tilewise.sheets import code, head, read

SIDES = (1, 2, 15, 16, 17, 32, 33, 128, 129, 255, 256)


class Right(unittest.TestCase):
    def test_by_hand(self):
        self.assertEqual(head([84, 73, 76, 83, 1, 1, 1, 4, 1, 4, 0, 0, 1, 177, 12, 64, 9, 238, 255, 229]),
                         [1, 1, 2, 2, 4, 1])
        self.assertEqual(head([84, 73, 76, 83, 1, 0, 0, 4, 0, 2, 0, 0, 1, 0, 90, 202, 103, 121]), [1, 1, 1, 1, 4, 0])
        self.assertEqual(head([84, 73, 76, 83, 4, 16, 0, 4, 5, 1, 0, 0, 2, 0, 0, 9, 9, 9, 0, 0, 0, 0]),
                         [2, 4, 17, 1, 4, 5])

    def test_how_many_tiles(self):
        for wide, high, e, many in ((256, 256, 4, 256), (256, 256, 8, 1), (256, 255, 5, 64), (256, 1, 6, 4),
                                    (1, 256, 7, 2), (16, 16, 4, 1), (17, 16, 4, 2), (16, 17, 4, 2), (17, 17, 4, 4),
                                    (33, 17, 4, 6), (129, 65, 6, 6), (129, 128, 7, 2), (255, 255, 8, 1)):
            self.assertEqual(head(helper.frame(2, wide, high, e, 3, [[1]] * many)), [many, 2, wide, high, e, 3])
            for other in (many - 1, many + 1):
                self.assertEqual(head(helper.frame(2, wide, high, e, 3, [[1]] * other)), [-2])

    def test_all_kinds_sides_and_levels(self):
        for e in (4, 5, 6, 7, 8):
            for wide in SIDES:
                for high in SIDES:
                    many = -(-wide // 2 ** e) * -(-high // 2 ** e)
                    kinds, levels = 1 + (wide + high) % 4, (wide + 3 * high + e) % 6
                    self.assertEqual(head(helper.frame(kinds, wide, high, e, levels, [[0]] * many)),
                                     [many, kinds, wide, high, e, levels])
            for kinds in (1, 2, 3, 4):
                for levels in (0, 1, 2, 3, 4, 5):
                    self.assertEqual(head(helper.frame(kinds, 9, 7, e, levels, [[0]])), [1, kinds, 9, 7, e, levels])

    def test_all_sheets(self):
        for kinds, wide, high, e, levels, numbers in helper.all_sheets():
            many = -(-wide // 2 ** e) * -(-high // 2 ** e)
            self.assertEqual(head(code(kinds, wide, high, e, levels, numbers)[1:]),
                             [many, kinds, wide, high, e, levels])

    def test_wide_is_not_high(self):
        self.assertEqual(head(helper.frame(1, 3, 5, 4, 0, [[1]])), [1, 1, 3, 5, 4, 0])

    def test_lengths_of_three_bytes(self):
        for length in (1, 255, 256, 65535, 65536, 70000, 99000):
            self.assertEqual(head(helper.frame(1, 1, 1, 4, 0, [[1] * length])), [1, 1, 1, 1, 4, 0])


class NotLookedAt(unittest.TestCase):
    def test_wrong_crc(self):
        for coded, several in helper.CODES:
            right = head(coded)
            self.assertEqual(right, [6, 3, 33, 18, 4, 2] if several else [1, 1, 2, 2, 4, 1])
            for wrong in helper.wrong_crcs(coded):
                self.assertEqual(head(wrong), right)

    def test_tiles_that_are_no_code(self):
        for coded in helper.loose_frames():
            self.assertEqual(read(coded), [-2])
            many = 6 if coded[5] == 32 else 1 if coded[5] == 1 else 2
            self.assertEqual(head(coded), [many, coded[4], coded[5] + 1, coded[6] + 1, coded[7], coded[8]])

    def test_lengths_of_other_tiles_than_there_are(self):
        # All lengths together are right, though neither is the tile's own.
        first, second = helper.tiles(1, 18, 1, 4, 0, list(range(18)))
        told = first + second
        for cut in range(1, len(told)):
            self.assertEqual(head(helper.frame(1, 18, 1, 4, 0, [told[:cut], told[cut:]])), [2, 1, 18, 1, 4, 0])


class Wrong(unittest.TestCase):
    def test_all_wrong_frames(self):
        for why, coded in helper.wrong_frames():
            with self.subTest(why):
                self.assertEqual(head(coded), [-2])

    def test_each_in_its_range_alone(self):
        # Whatever else stands there is right for such a head, were it one.
        self.assertEqual(head(helper.frame(4, 1, 1, 8, 5, [[1]])), [1, 4, 1, 1, 8, 5])
        for kinds, e, levels in ((0, 4, 0), (5, 4, 0), (1, 3, 0), (1, 9, 0), (1, 4, 6), (255, 4, 0), (1, 255, 0)):
            self.assertEqual(head(helper.frame(kinds, 1, 1, e, levels, [[1]])), [-2])

    def test_more_bytes_than_may_be(self):
        for coded, _ in helper.CODES:
            self.assertEqual(head(coded + [0] * (1048576 - len(coded))), [-2])
            self.assertEqual(head(coded + [0] * (1048577 - len(coded))), [-8])
        self.assertEqual(head([0] * 1048577), [-8])
        self.assertEqual(head(helper.frame(1, 1, 1, 4, 0, [[1] * (1048576 - 16)])), [1, 1, 1, 1, 4, 0])
        self.assertEqual(head(helper.frame(1, 1, 1, 4, 0, [[1] * (1048577 - 16)])), [-8])

    def test_bytes_out_of_range(self):
        for value in (-1, 256):
            for coded, _ in helper.CODES:
                for place in (0, 4, 9, len(coded) - 5, len(coded) - 1):
                    self.assertEqual(head(coded[:place] + [value] + coded[place + 1:]), [-8])


if __name__ == "__main__":
    unittest.main()
