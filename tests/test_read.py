"""Promise 2: read."""

import unittest

from tests import helper
from tilewise.sheets import code, read

FOUR_POINTS = [84, 73, 76, 83, 1, 1, 1, 4, 1, 4, 0, 0, 1, 177, 12, 64, 9, 238, 255, 229]


class ReadBack(unittest.TestCase):
    def check(self, kinds, wide, high, e, levels, numbers):
        with self.subTest(kinds=kinds, wide=wide, high=high, e=e, levels=levels):
            self.assertEqual(read(helper.code(kinds, wide, high, e, levels, numbers)), [0, kinds, wide, high] + numbers)

    def test_by_hand(self):
        self.assertEqual(read(FOUR_POINTS), [0, 1, 2, 2, 10, 12, 14, 20])
        self.assertEqual(read([84, 73, 76, 83, 1, 0, 0, 4, 0, 2, 0, 0, 1, 0, 90, 202, 103, 121]), [0, 1, 1, 1, 0])
        self.assertEqual(read([84, 73, 76, 83, 3, 0, 0, 8, 5, 4, 0, 0, 1, 209, 84, 96, 50, 5, 45, 68]),
                         [0, 3, 1, 1, 10, 20, 33])

    def test_all_sheets(self):
        for sheet in helper.all_sheets():
            self.check(*sheet)

    def test_one_point_of_every_size(self):
        for number in list(range(70)) + [255, 256, 257, 32767, 32768, 65534, 65535]:
            self.check(1, 1, 1, 6, 1, [number])

    def test_largest_sheet(self):
        numbers = [3] * (256 * 256 * 4)
        self.assertEqual(read(code(4, 256, 256, 8, 5, numbers)[1:]), [0, 4, 256, 256] + numbers)


class Range(unittest.TestCase):
    def test_more_bytes_than_may_be(self):
        self.assertEqual(read([0] * 1048577), [-8])
        self.assertEqual(read([0] * 1048576), [-2])
        self.assertEqual(read(FOUR_POINTS + [0] * 1048576), [-8])

    def test_bytes_out_of_range(self):
        for value in (-1, 256):
            for place in range(len(FOUR_POINTS)):
                wrong = list(FOUR_POINTS)
                wrong[place] = value
                self.assertEqual(read(wrong), [-8])


class WrongFrame(unittest.TestCase):
    def refused(self, coded):
        self.assertEqual(read(coded), [-2])

    def test_all_wrong_frames(self):
        for why, coded in helper.wrong_frames():
            with self.subTest(why):
                self.refused(coded)

    def test_wrong_crc(self):
        for coded, several in helper.CODES:
            self.assertEqual(read(coded)[0], 0)
            for wrong in helper.wrong_crcs(coded):
                self.refused(wrong)

    def test_none_and_too_few(self):
        numbers = helper.gentle(1, 20, 3)
        for coded in (FOUR_POINTS, helper.code(1, 20, 3, 4, 1, numbers)):
            for length in range(len(coded)):
                self.refused(coded[:length])
            for length in range(len(coded) - 4):
                self.refused(helper.seal(coded[:length]))
        self.refused([])
        self.refused([84, 73, 76, 83])
        self.refused([0])

    def test_too_few_for_the_table_that_is_asked_for(self):
        for length in range(9 + 3 * 256 + 4):
            self.refused(helper.seal(([84, 73, 76, 83, 1, 255, 255, 4, 0] + [1, 0, 0] * 256)[:length]))

    def test_first_bytes(self):
        for place in range(4):
            for value in (0, 65, FOUR_POINTS[place] + 1, FOUR_POINTS[place] - 1, 255):
                wrong = FOUR_POINTS[:-4]
                wrong[place] = value
                self.refused(helper.seal(wrong))

    def test_kinds_e_levels(self):
        for kinds, e, levels in ((0, 4, 1), (5, 4, 1), (255, 4, 1), (1, 3, 1), (1, 9, 1), (1, 0, 1), (1, 255, 1),
                                 (1, 4, 6), (1, 4, 255)):
            self.refused(helper.frame(kinds, 2, 2, e, levels, [[1, 177, 12, 64]]))
        self.refused(helper.frame(0, 2, 2, 4, 1, [[1]]))
        self.refused(helper.frame(5, 1, 1, 4, 0, [[1, 0, 0, 0, 0]]))
        self.refused(helper.frame(1, 1, 1, 3, 0, [[1, 0]]))
        self.refused(helper.frame(1, 1, 1, 9, 0, [[1, 0]]))
        self.refused(helper.frame(1, 1, 1, 4, 6, [[1, 0]]))
        self.assertEqual(read(helper.frame(1, 1, 1, 4, 5, [[1, 0]])), [0, 1, 1, 1, 0])

    def test_other_size_than_the_tiles_are_of(self):
        for wide, high in ((1, 2), (2, 1), (3, 2), (2, 3), (17, 2), (256, 256)):
            self.refused(helper.frame(1, wide, high, 4, 1, [[1, 177, 12, 64]]))

    def test_length_in_the_table(self):
        first, second = helper.tiles(1, 18, 1, 4, 0, list(range(18)))
        one, two = len(first), len(second)
        head = [84, 73, 76, 83, 1, 17, 0, 4, 0]

        def told(length, other):
            table = list(length.to_bytes(3, "little")) + list(other.to_bytes(3, "little"))
            return helper.seal(head + table + first + second)

        self.assertEqual(read(told(one, two)), [0, 1, 18, 1] + list(range(18)))
        for length, other in ((one - 1, two), (one + 1, two), (one, two - 1), (one, two + 1), (one, two + 256),
                              (one + 65536, two), (16777215, two), (one, 16777215), (0, two), (one, 0), (0, 0),
                              (one - 1, two + 1), (one + 1, two - 1), (two, one), (one + two, 0), (0, one + two)):
            self.refused(told(length, other))

    def test_length_0_for_a_tile_that_has_no_byte(self):
        codes = helper.tiles(1, 18, 1, 4, 0, list(range(18)))
        self.refused(helper.frame(1, 18, 1, 4, 0, [codes[0], []]))
        self.refused(helper.frame(1, 18, 1, 4, 0, [[], codes[1]]))
        self.refused(helper.frame(1, 1, 1, 4, 0, [[]]))

    def test_byte_too_many_or_missing_at_the_end(self):
        for coded in (FOUR_POINTS, helper.code(3, 17, 17, 4, 2, helper.gentle(3, 17, 17))):
            for more in (0, 1, 255):
                self.refused(coded + [more])
                self.refused(helper.seal(coded[:-4] + [more]))
                self.refused(helper.seal(coded + [more]))
            self.refused(helper.seal(coded))
            self.refused(coded[:-1])
            self.refused(helper.seal(coded[:-5]))

    def test_one_byte_changed_and_the_crc_as_it_was(self):
        for coded in (FOUR_POINTS, helper.code(3, 17, 2, 4, 2, helper.gentle(3, 17, 2)),
                      helper.code(1, 17, 2, 4, 0, helper.wild(1, 17, 2))):
            for place in range(len(coded)):
                for change in (1, 2, 128, 255):
                    wrong = list(coded)
                    wrong[place] ^= change
                    self.refused(wrong)

    def test_crc_highest_byte_first(self):
        self.refused(FOUR_POINTS[:-4] + FOUR_POINTS[-4:][::-1])


class WrongTile(unittest.TestCase):
    """The table and the CRC-32 are right here: a tile alone is not as the document tells it.

    The calls that look at tiles one by one are held to the same, each by its own refused and heard.
    """

    def refused(self, kinds, wide, high, e, levels, tiles, place=0):
        self.assertEqual(read(helper.frame(kinds, wide, high, e, levels, tiles)), [-2])

    def heard(self, kinds, wide, high, e, levels, tiles, numbers):
        self.assertEqual(read(helper.frame(kinds, wide, high, e, levels, tiles)), [0, kinds, wide, high] + numbers)

    def test_plain_where_the_other_way_is_fewer(self):
        for kinds in (1, 2, 3, 4):
            for wide, high in ((1, 1), (5, 3), (16, 16)):
                numbers = helper.smooth(kinds, wide, high) if wide > 1 else [5] * kinds
                self.assertEqual(helper.tiles(kinds, wide, high, 4, 3, numbers)[0][0], 1)
                self.refused(kinds, wide, high, 4, 3, [helper.plain(numbers)])

    def test_the_other_way_where_plain_is_not_more(self):
        for numbers in ([32], [40], [95], [1000], [65535]):
            self.refused(1, 1, 1, 4, 0, [helper.short(1, 1, 1, 0, numbers)])
        numbers = helper.wild(3, 9, 5)
        self.assertEqual(helper.tiles(3, 9, 5, 4, 1, numbers)[0][0], 0)
        self.refused(3, 9, 5, 4, 1, [helper.short(3, 9, 5, 1, numbers)])

    def test_both_ways_of_the_same_length(self):
        alike = 0
        for top in range(10, 1200):
            numbers = helper.spread(12, top, top)
            short, plain = helper.short(1, 4, 3, 2, numbers), helper.plain(numbers)
            if len(short) == len(plain):
                alike += 1
                self.refused(1, 4, 3, 4, 2, [short])
                self.heard(1, 4, 3, 4, 2, [plain], numbers)
        self.assertGreater(alike, 3)

    def test_missing_bits_that_are_not_0(self):
        for low in range(1, 8):
            self.refused(1, 1, 1, 4, 0, [[1, low]])
        for low in range(1, 8):
            self.refused(1, 2, 2, 4, 1, [[1, 177, 12, 64 + low]])

    def test_byte_too_many_or_too_few_within_a_tile(self):
        for more in ([0], [255], [0, 0], [128]):
            self.refused(1, 2, 2, 4, 1, [[1, 177, 12, 64] + more])
        self.refused(1, 2, 2, 4, 1, [[1, 177, 12]])
        self.refused(1, 2, 2, 4, 1, [[1]])
        wild = helper.plain(helper.wild(1, 3, 3))
        self.heard(1, 3, 3, 4, 0, [wild], helper.wild(1, 3, 3))
        for wrong in (wild[:-1], wild[:-2], wild + [0], wild + [0, 0], [0], wild[:2]):
            self.refused(1, 3, 3, 4, 0, [wrong])

    def test_number_told_in_full_that_need_not_be(self):
        numbers = [0] * 30 + [1, 2]
        right = [1] + helper.packed(helper.band_bits(numbers))
        self.heard(1, 32, 1, 5, 0, [right], numbers)
        for place in (0, 5, 30, 31):
            wrong = [1] + helper.packed(helper.band_bits(numbers, (place,)))
            self.assertLess(len(wrong), 65)
            self.refused(1, 32, 1, 5, 0, [wrong])

    def test_more_than_24_bits_1(self):
        # 25 bits 1 and a 0 would tell 25 * 1, were there no other way from 24 on.
        zeros = helper.band_bits([0] * 31)
        self.refused(1, 32, 1, 5, 0, [[1] + helper.packed(zeros + "1" * 25 + "0")])
        self.refused(1, 32, 1, 5, 0, [[1] + [255] * 40])

    def test_numbers_below_0(self):
        self.refused(1, 1, 1, 4, 0, [helper.short(1, 1, 1, 0, [-1])])
        for kinds in (1, 2, 3, 4):
            for levels in (0, 2, 5):
                for place in (0, kinds * 100 + kinds - 1):
                    numbers = [0] * (kinds * 256)
                    numbers[place] = -1
                    wrong = helper.short(kinds, 16, 16, levels, numbers)
                    self.assertLess(len(wrong), 512 * kinds)
                    self.refused(kinds, 16, 16, 4, levels, [wrong])

    def test_numbers_above_65535(self):
        for kinds in (1, 2, 3, 4):
            for levels in (1, 2, 5):
                for place in (0, kinds * 100 + kinds - 1):
                    numbers = [65535] * (kinds * 256)
                    right = helper.short(kinds, 16, 16, levels, numbers)
                    self.heard(kinds, 16, 16, 4, levels, [right], numbers)
                    numbers[place] = 65536
                    wrong = helper.short(kinds, 16, 16, levels, numbers)
                    self.assertLess(len(wrong), 512 * kinds)
                    self.refused(kinds, 16, 16, 4, levels, [wrong])

    def test_first_byte_neither_0_nor_1(self):
        for first in (2, 3, 128, 254, 255):
            self.refused(1, 2, 2, 4, 1, [[first, 177, 12, 64]])
            self.refused(1, 1, 1, 4, 0, [[first, 255, 255]])
            self.refused(1, 1, 1, 4, 0, [[first]])

    def test_one_wrong_tile_among_right_ones(self):
        numbers = helper.gentle(2, 33, 20)
        right = helper.tiles(2, 33, 20, 4, 2, numbers)
        self.heard(2, 33, 20, 4, 2, right, numbers)
        for place in range(len(right)):
            wrong = list(right)
            wrong[place] = wrong[place] + [0]
            self.refused(2, 33, 20, 4, 2, wrong, place)


class JustOneCode(unittest.TestCase):
    def test_whatever_is_read_has_these_bytes_as_its_code(self):
        sheets = ((1, 1, 1, 4, 0, [9]), (1, 2, 2, 4, 1, [10, 12, 14, 20]), (1, 3, 1, 5, 2, [0, 65535, 4]),
                  (3, 2, 1, 4, 1, [9, 8, 7, 6, 5, 4]), (1, 17, 1, 4, 3, [7] * 17))
        for kinds, wide, high, e, levels, numbers in sheets:
            coded = helper.code(kinds, wide, high, e, levels, numbers)[:-4]
            for place in range(len(coded)):
                for value in range(256):
                    other = list(coded)
                    other[place] = value
                    self.check(helper.seal(other))

    def check(self, coded):
        answered = read(coded)
        if answered != [-2]:
            self.assertEqual(answered[0], 0)
            again = helper.code(answered[1], answered[2], answered[3], coded[7], coded[8], answered[4:])
            self.assertEqual(again, coded)

    def test_code_of_another_number_of_levels(self):
        numbers = helper.gentle(1, 16, 16)
        told = helper.tiles(1, 16, 16, 4, 5, numbers)
        # Bits of five levels may be heard by one, but then they are other numbers, or none.
        self.assertNotEqual(read(helper.frame(1, 16, 16, 4, 1, told))[4:], numbers)

    def test_codes_of_different_sheets_are_different(self):
        seen = {}
        for number in range(65536):
            if number < 300 or number % 97 == 0:
                seen[tuple(code(1, 1, 1, 4, 0, [number]))] = number
        self.assertEqual(len(seen), len([n for n in range(65536) if n < 300 or n % 97 == 0]))


if __name__ == "__main__":
    unittest.main()
