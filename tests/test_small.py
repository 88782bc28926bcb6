"""Promise 5: small."""

import unittest

from tests import helper, test_read
from tilewise.sheets import code, read, small

FAR = 2147483647


def coded_sheet(*sheet):
    return code(*sheet)[1:]


class ByHand(unittest.TestCase):
    """Small sheets worked out by hand from the document, as the remarks show."""

    def check(self, sheet, l, expected):
        self.assertEqual(small(l, coded_sheet(*sheet)), expected)

    def test_four_points(self):
        # 10 12 / 14 20: rows 11 2 / 17 6; the column 11 17: difference 6, mean 11 + 14/4 = 14.
        coded = [84, 73, 76, 83, 1, 1, 1, 4, 1, 4, 0, 0, 1, 177, 12, 64, 9, 238, 255, 229]
        self.assertEqual(small(0, coded), [0, 1, 2, 2, 10, 12, 14, 20])
        self.assertEqual(small(1, coded), [0, 1, 1, 1, 14])

    def test_odd_row_and_column(self):
        # 4 9 6: difference 4, means 6 and 8; these halved: difference 2, mean 6 + 6/4 = 7.
        for levels in (2, 3, 5):
            self.check((1, 3, 1, 4, levels, [4, 9, 6]), 1, [0, 1, 2, 1, 6, 8])
            self.check((1, 1, 3, 4, levels, [4, 9, 6]), 1, [0, 1, 1, 2, 6, 8])
            self.check((1, 3, 1, 4, levels, [4, 9, 6]), 2, [0, 1, 1, 1, 7])
        for l in (2, 3, 4, 5):
            self.check((1, 3, 1, 4, 5, [4, 9, 6]), l, [0, 1, 1, 1, 7])

    def test_below_0(self):
        # The differences are 0 - 65535/2 = -32767 twice: means 65535 - 16383 = 49152, 0 - 16383 and 49152.
        row = [65535, 0, 0, 0, 65535]
        self.check((1, 5, 1, 4, 1, row), 1, [0, 1, 3, 1, 49152, 0, 49152])
        self.check((1, 1, 5, 4, 1, row), 1, [0, 1, 1, 3, 49152, 0, 49152])
        # It's held at 0 in what is answered alone: halved once more, the difference is -16383 - 49152 = -65535,
        # and the means are 49152 - 131068/4 = 16385.
        self.check((1, 5, 1, 4, 2, row), 2, [0, 1, 2, 1, 16385, 16385])

    def test_above_65535(self):
        # The differences are 65535 - 65535/2 = 32768 twice: means 65538/4 = 16384, 65535 + 16384, and 16384.
        row = [0, 65535, 65535, 65535, 0]
        self.check((1, 5, 1, 4, 1, row), 1, [0, 1, 3, 1, 16384, 65535, 16384])

    def test_one_beyond_the_ends(self):
        # differences 0 - 2/2 = -1: (-1 - 1 + 2)/4 = 0, nothing is beyond.
        self.check((1, 5, 1, 4, 1, [2, 0, 0, 0, 2]), 1, [0, 1, 3, 1, 2, 0, 2])
        # differences 0 - 4/2 = -2: (-2 - 2 + 2)/4 = -1, so means 3, -1, 3.
        self.check((1, 5, 1, 4, 1, [4, 0, 0, 0, 4]), 1, [0, 1, 3, 1, 3, 0, 3])
        # differences 65535 - 131068/2 = 1: (1 + 1 + 2)/4 = 1, so means 65534, 65536, 65534.
        self.check((1, 5, 1, 4, 1, [65533, 65535, 65535, 65535, 65533]), 1, [0, 1, 3, 1, 65534, 65535, 65534])

    def test_three_kinds_and_four(self):
        # 10 20 33 is 20 13 -10, 40 20 5 is 21 -15 20. Means: 20 + 4/4 = 21, 13 - 54/4 = 13 - 14 = -1,
        # -10 + 62/4 = 5; unmixed g is 21 - 4/4 = 20, r is 25, b is 19. Of 7 and 9: 7 + 6/4 = 8.
        self.check((3, 2, 1, 4, 1, [10, 20, 33, 40, 20, 5]), 1, [0, 3, 1, 1, 25, 20, 19])
        self.check((4, 2, 1, 4, 1, [10, 20, 33, 7, 40, 20, 5, 9]), 1, [0, 4, 1, 1, 25, 20, 19, 8])

    def test_two_kinds_are_not_unmixed(self):
        # 1 and 2: 1 + 4/4 = 2; 3 and 0: 3 - 4/4 = 2.
        self.check((2, 2, 1, 4, 1, [1, 3, 2, 0]), 1, [0, 2, 1, 1, 2, 2])

    def test_held_behind_the_unmixing(self):
        # Of three kinds the second alone is not 0: 65535 0 0 0 65535. Mixed, the first is 131070/4 = 32767 0 0 0 32767:
        # differences -16383, means 32767 - 8191 = 24576, -8191, 24576; b - g and r - g are -65535 0 0 0 -65535:
        # differences 32768, means -65535 + 16384 = -49151, 16384, -49151.
        # g: 24576 + 98302/4 (24575.5, rounded down below 0: -24576) = 49152; -8191 - 32768/4 = -16383; 49152.
        # r and b: -49151 + 49152 = 1; 16384 - 16383 = 1; 1.
        numbers = [0, 65535, 0] + [0] * 9 + [0, 65535, 0]
        self.check((3, 5, 1, 4, 1, numbers), 1, [0, 3, 3, 1, 1, 49152, 1, 1, 0, 1, 1, 49152, 1])

    def test_tiles_are_made_small_by_themselves(self):
        # 16 is halved to 8 4 2 1 1, and 1 stays.
        self.check((1, 17, 1, 4, 5, [0] * 16 + [5]), 5, [0, 1, 2, 1, 0, 5])
        self.check((1, 1, 17, 4, 5, [0] * 16 + [5]), 4, [0, 1, 1, 2, 0, 5])
        self.check((1, 17, 1, 4, 5, [3] * 16 + [5]), 3, [0, 1, 3, 1, 3, 3, 5])

    def test_sizes(self):
        for wide, high, e, expected in ((33, 20, 4, [(33, 20), (17, 10), (9, 5), (5, 3), (3, 2), (3, 2)]),
                                        (17, 17, 5, [(17, 17), (9, 9), (5, 5), (3, 3), (2, 2), (1, 1)]),
                                        (17, 17, 4, [(17, 17), (9, 9), (5, 5), (3, 3), (2, 2), (2, 2)]),
                                        (37, 7, 4, [(37, 7), (19, 4), (10, 2), (5, 1), (3, 1), (3, 1)]),
                                        (40, 70, 5, [(40, 70), (20, 35), (10, 18), (5, 9), (3, 5), (2, 3)]),
                                        (256, 1, 4, [(256, 1), (128, 1), (64, 1), (32, 1), (16, 1), (16, 1)])):
            coded = coded_sheet(1, wide, high, e, 5, [7] * (wide * high))
            for l, (width, height) in enumerate(expected):
                self.assertEqual(small(l, coded), [0, 1, width, height] + [7] * (width * height))


class Sheets(unittest.TestCase):
    def check(self, kinds, wide, high, e, levels, numbers):
        coded = helper.code(kinds, wide, high, e, levels, numbers)
        for l in range(levels + 1):
            with self.subTest(kinds=kinds, wide=wide, high=high, e=e, levels=levels, l=l):
                self.assertEqual(small(l, coded), helper.small(kinds, wide, high, e, levels, l, numbers))
        self.assertEqual(small(0, coded), [0, kinds, wide, high] + numbers)
        self.assertEqual(small(0, coded), read(coded))

    def test_all_sheets(self):
        for sheet in helper.all_sheets():
            self.check(*sheet)

    def test_every_kind_of_several_tiles(self):
        for kinds in (1, 2, 3, 4):
            for made in (helper.gentle, helper.wild):
                self.check(kinds, 35, 21, 4, 5, made(kinds, 35, 21))
                self.check(kinds, 40, 3, 5, 5, made(kinds, 40, 3))

    def test_same_whatever_the_levels(self):
        for kinds in (1, 3):
            numbers = helper.wild(kinds, 20, 18)
            for l in range(6):
                answers = [small(l, coded_sheet(kinds, 20, 18, 4, levels, numbers)) for levels in range(l, 6)]
                self.assertEqual(answers, [answers[0]] * (6 - l))

    def test_held_numbers_are_there(self):
        beyond = [0, 0]
        for sheet in helper.harsh_sheets():
            for l in range(1, sheet[4] + 1):
                answered = small(l, coded_sheet(*sheet))[4:]
                beyond[0] += answered.count(0)
                beyond[1] += answered.count(65535)
                self.assertTrue(all(0 <= number <= 65535 for number in answered))
        self.assertGreater(min(beyond), 50)

    def test_crc_is_not_looked_at(self):
        for coded, several in helper.CODES:
            for l in range(3 if several else 2):
                right = small(l, coded)
                self.assertEqual(right[0], 0)
                for wrong in helper.wrong_crcs(coded):
                    self.assertEqual(small(l, wrong), right)


class Wrong(unittest.TestCase):
    def test_l_out_of_range_whatever_the_bytes(self):
        wrong = [coded for _, coded in helper.wrong_frames()][::5] + list(helper.loose_frames())[::5]
        for coded in [helper.CODES[0][0], helper.CODES[1][0], []] + wrong:
            for l in (-1, 6, 7, -FAR - 1, FAR):
                self.assertEqual(small(l, coded), [-8])

    def test_l_above_the_levels(self):
        for levels in range(6):
            coded = coded_sheet(2, 18, 3, 4, levels, helper.gentle(2, 18, 3))
            self.assertEqual([small(l, coded)[0] for l in range(6)], [0] * (levels + 1) + [-8] * (5 - levels))
            for l in range(levels + 1, 6):
                self.assertEqual(small(l, coded), [-8])

    def test_wrong_frame_whatever_l_is(self):
        for why, coded in helper.wrong_frames():
            with self.subTest(why):
                for l in range(6):
                    self.assertEqual(small(l, coded), [-2])

    def test_l_above_the_levels_where_a_tile_is_no_code(self):
        # As the document says them one after another: what is not as in 3, then l, then the tiles.
        for tiles in ([[9], [9]], [[1, 0], [0]]):
            self.assertEqual(small(3, helper.frame(1, 17, 1, 4, 2, tiles)), [-8])
            self.assertEqual(small(2, helper.frame(1, 17, 1, 4, 2, tiles)), [-2])

    def test_one_tile_is_no_code(self):
        sheet = (2, 33, 20, 4, 2, helper.gentle(2, 33, 20))
        right = helper.tiles(*sheet)
        for place in range(6):
            for spoiled in ([0], [9], right[place] + [0], right[place][:-1], [1] + [255] * 50):
                coded = helper.frame(*sheet[:5], right[:place] + [spoiled] + right[place + 1:])
                for l in (0, 1, 2):
                    self.assertEqual(small(l, coded), [-2])

    def test_bytes_that_may_not_be(self):
        coded = helper.CODES[0][0]
        for l in (0, 1, 2, 5, 6):
            self.assertEqual(small(l, [0] * 1048577), [-8])
            self.assertEqual(small(l, coded[:-1] + [256]), [-8])
            self.assertEqual(small(l, [-1] + coded[1:]), [-8])


class WrongTile(test_read.WrongTile):
    """All that read is tested for, at every l up to the levels."""

    def refused(self, kinds, wide, high, e, levels, tiles, place=0):
        for l in range(levels + 1):
            self.assertEqual(small(l, helper.frame(kinds, wide, high, e, levels, tiles)), [-2])

    def heard(self, kinds, wide, high, e, levels, tiles, numbers):
        self.assertEqual(small(0, helper.frame(kinds, wide, high, e, levels, tiles)), [0, kinds, wide, high] + numbers)


if __name__ == "__main__":
    unittest.main()
