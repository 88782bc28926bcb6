"""Promise 1: code."""

import unittest

from tests import helper
from tilewise.sheets import code

FAR = 2147483647


def answer(coded):
    return [len(coded)] + coded


def told_tiles(answered, many):
    """The tiles' codes out of what code answered."""
    coded = answered[1:]
    start, out = 9 + 3 * many, []
    for i in range(many):
        length = int.from_bytes(bytes(coded[9 + 3 * i:12 + 3 * i]), "little")
        out.append(coded[start:start + length])
        start += length
    return out


class ByHand(unittest.TestCase):
    """Tiles' bytes worked out by hand from the document, as the remarks show.

    The written-out CRC-32 bytes are not by hand: they are held against the document's own steps and zlib below.
    """

    def test_crc_by_the_documents_steps(self):
        for coded in (code(1, 1, 1, 4, 0, [0]), code(1, 2, 2, 4, 1, [10, 12, 14, 20]), code(3, 1, 1, 8, 5, [10, 20, 33])):
            c = 2 ** 32 - 1
            for byte in coded[1:-4]:
                c ^= byte
                for _ in range(8):
                    c = c // 2 ^ 0xEDB88320 if c % 2 else c // 2
            c ^= 2 ** 32 - 1
            self.assertEqual(coded[-4:], [c % 256, c // 256 % 256, c // 65536 % 256, c // 16777216])
            self.assertEqual(coded[1:], helper.seal(coded[1:-4]))

    def test_one_point_of_zero(self):
        # k is 4: a bit 0 and four more, 00000.
        self.assertEqual(code(1, 1, 1, 4, 0, [0]),
                         [18, 84, 73, 76, 83, 1, 0, 0, 4, 0, 2, 0, 0, 1, 0, 90, 202, 103, 121])

    def test_four_points_halved_once(self):
        # 10 12 / 14 20: rows 11 2 / 17 6; columns 14 6 and 4 4; told 14, 4, 6, 4:
        # 101100 01000 01100 01000.
        self.assertEqual(code(1, 2, 2, 4, 1, [10, 12, 14, 20]),
                         [20, 84, 73, 76, 83, 1, 1, 1, 4, 1, 4, 0, 0, 1, 177, 12, 64, 9, 238, 255, 229])

    def test_three_kinds_mixed(self):
        # 10 20 33 become 20, 13, -10: 1101000 101010 100011.
        self.assertEqual(code(3, 1, 1, 8, 5, [10, 20, 33]),
                         [20, 84, 73, 76, 83, 3, 0, 0, 8, 5, 4, 0, 0, 1, 209, 84, 96, 50, 5, 45, 68])

    def test_fourth_kind_stays(self):
        # as above, then 7: 01110.
        self.assertEqual(told_tiles(code(4, 1, 1, 8, 0, [10, 20, 33, 7]), 1), [[1, 209, 84, 110]])

    def test_two_kinds_are_not_mixed(self):
        # 3: 00110, 1: 00010.
        self.assertEqual(told_tiles(code(2, 1, 1, 4, 0, [3, 1]), 1), [[1, 48, 128]])

    def test_two_kinds_one_after_another(self):
        # the first kind 1, 2: 00010, then k is 4 again (2 * 8 is below 17), 00100; the second 3, 0: 00110 00000.
        self.assertEqual(told_tiles(code(2, 2, 1, 4, 0, [1, 3, 2, 0]), 1), [[1, 0b00010001, 0b00001100, 0]])

    def test_two_tiles_and_their_table(self):
        # sixteen zeros are 42 bits 0; 5 is 01010.
        expected = [84, 73, 76, 83, 1, 16, 0, 4, 0, 7, 0, 0, 2, 0, 0, 1, 0, 0, 0, 0, 0, 0, 1, 80]
        self.assertEqual(code(1, 17, 1, 4, 0, [0] * 16 + [5]), answer(helper.seal(expected)))

    def test_odd_row_halved_once(self):
        # 4 9 6: difference 9 - 5 = 4, means 4 + 10/4 = 6 and 6 + 10/4 = 8.
        # The corner 6, 8 with k 4 both times: 01100 100000; the band 4: 01000.
        self.assertEqual(told_tiles(code(1, 3, 1, 4, 1, [4, 9, 6]), 1), [[1, 0b01100100, 0b00001000]])

    def test_plain_tile(self):
        self.assertEqual(code(1, 1, 1, 4, 0, [65535]),
                         answer(helper.seal([84, 73, 76, 83, 1, 0, 0, 4, 0, 3, 0, 0, 0, 255, 255])))

    def test_plain_tile_has_the_low_byte_first_and_is_not_mixed(self):
        self.assertEqual(told_tiles(code(3, 1, 1, 4, 2, [60000, 1, 40000]), 1), [[0, 96, 234, 1, 0, 64, 156]])

    def test_number_of_24_bits_one(self):
        # fifteen zeros are 41 bits; then k is 0, and 131070 is told in full.
        self.assertEqual(told_tiles(code(1, 16, 1, 4, 0, [0] * 15 + [65535]), 1),
                         [[1, 0, 0, 0, 0, 0, 127, 255, 255, 128, 255, 255, 0]])

    def test_a_and_c_halved_and_rounded_down(self):
        # 49 is 11111100010; 62 zeros are 181 bits; a is 65 when c is 64: 32 and 32, so k is 0 and 1 is 110.
        self.assertEqual(told_tiles(code(1, 64, 1, 8, 0, [49] + [0] * 62 + [1]), 1),
                         [[1, 252, 64] + [0] * 22 + [192]])

    def test_just_below_24_bits_one(self):
        # k is 4 at first: 191 is 382 = 23 * 16 + 14, 192 is 384 = 24 * 16; both beside zeros enough.
        first = told_tiles(code(1, 16, 1, 4, 0, [191] + [0] * 15), 1)[0]
        second = told_tiles(code(1, 16, 1, 4, 0, [192] + [0] * 15), 1)[0]
        self.assertEqual(first[:5], [1, 255, 255, 0b11111110, 0b11100000])
        self.assertEqual(second[:7], [1, 255, 255, 255, 0, 1, 128])


class Sheets(unittest.TestCase):
    def check(self, kinds, wide, high, e, levels, numbers):
        with self.subTest(kinds=kinds, wide=wide, high=high, e=e, levels=levels):
            expected = helper.code(kinds, wide, high, e, levels, numbers)
            answered = code(kinds, wide, high, e, levels, numbers)
            self.assertEqual(answered, answer(expected))
            side = 2 ** e
            many = -(-wide // side) * -(-high // side)
            self.assertLessEqual(answered[0], 13 + 4 * many + 2 * kinds * wide * high)

    def test_all_sheets(self):
        for sheet in helper.all_sheets():
            self.check(*sheet)

    def test_smooth_begins_with_1_and_wild_with_0(self):
        for kinds in (1, 2, 3, 4):
            smooth = told_tiles(code(kinds, 40, 20, 4, 3, helper.smooth(kinds, 40, 20)), 6)
            wild = told_tiles(code(kinds, 40, 20, 4, 3, helper.wild(kinds, 40, 20)), 6)
            self.assertEqual([told[0] for told in smooth], [1] * 6)
            self.assertEqual([told[0] for told in wild], [0] * 6)

    def test_tiles_of_both_ways_in_one_sheet(self):
        noise = helper.spread(16 * 20, 65535, 3)
        numbers = [noise.pop() if x < 16 else 9 for y in range(20) for x in range(32)]
        self.assertEqual([told[0] for told in told_tiles(code(1, 32, 20, 4, 1, numbers), 4)], [0, 1, 0, 1])
        self.check(1, 32, 20, 4, 1, numbers)

    def test_narrower_tiles(self):
        for wide, high, e, many in ((17, 33, 4, 6), (33, 16, 4, 3), (65, 2, 6, 2), (2, 129, 7, 2), (31, 47, 5, 2)):
            self.assertEqual(len(helper.tile_parts(1, wide, high, e, [5] * (wide * high))), many)
            told = told_tiles(code(1, wide, high, e, 2, [5] * (wide * high)), many)
            self.assertEqual(told, helper.tiles(1, wide, high, e, 2, [5] * (wide * high)))

    def test_crc_of_many_bytes(self):
        numbers = helper.wild(1, 256, 20)
        answered = code(1, 256, 20, 4, 0, numbers)
        self.assertEqual(answered[1:], helper.seal(answered[1:-4]))


class Edges(unittest.TestCase):
    def test_levels_beyond_the_side(self):
        for levels in (1, 2, 3, 4, 5):
            self.assertEqual(told_tiles(code(1, 1, 1, 4, levels, [7]), 1), [[1, 0b01110000]])

    def test_empty_bands(self):
        # A row of one halved twice stays; of two points the means alone are halved on.
        self.assertEqual(code(1, 2, 1, 4, 1, [8, 8])[10:-4], code(1, 2, 1, 4, 5, [8, 8])[10:-4])
        self.assertEqual(code(1, 1, 2, 4, 1, [8, 9])[10:-4], code(1, 1, 2, 4, 5, [8, 9])[10:-4])

    def test_largest_sheet(self):
        numbers = [3] * (256 * 256 * 4)
        answered = code(4, 256, 256, 8, 5, numbers)
        self.assertEqual(answered[:10], [len(answered) - 1, 84, 73, 76, 83, 4, 255, 255, 8, 5])
        self.assertLess(answered[0], 34000)
        small_tiles = code(1, 256, 256, 4, 0, [3] * 65536)
        told = told_tiles(small_tiles, 256)
        self.assertEqual(told, [told[0]] * 256)

    def test_longest_code_there_can_be(self):
        # No tile is told in fewer bytes than its numbers.
        numbers = helper.wild(2, 32, 16)
        self.assertEqual(code(2, 32, 16, 4, 5, numbers)[0], 13 + 4 * 2 + 2 * 1024)


class BothWaysAlike(unittest.TestCase):
    def test_one_point(self):
        # 31 is 11101110, a byte: two bytes against three. 32 takes nine bits: three against three.
        self.assertEqual(told_tiles(code(1, 1, 1, 4, 0, [31]), 1), [[1, 238]])
        self.assertEqual(told_tiles(code(1, 1, 1, 4, 0, [32]), 1), [[0, 32, 0]])

    def test_lengths_one_below_alike_one_above(self):
        seen = {}
        for kinds, wide, high, e, levels, numbers in helper.close_sheets():
            short = helper.short(kinds, wide, high, levels, numbers)
            plain = helper.plain(numbers)
            told = told_tiles(code(kinds, wide, high, e, levels, numbers), 1)[0]
            seen[len(short) - len(plain)] = True
            self.assertEqual(told, short if len(short) < len(plain) else plain)
        for apart in (-1, 0, 1):
            self.assertIn(apart, seen)


class Wrong(unittest.TestCase):
    def test_each_out_of_its_range(self):
        good = {"kinds": 2, "wide": 3, "high": 4, "e": 5, "levels": 1}
        wrong = {"kinds": (0, 5), "wide": (0, 257), "high": (0, 257), "e": (3, 9), "levels": (-1, 6)}
        self.assertEqual(code(2, 3, 4, 5, 1, [0] * 24)[0], len(helper.code(2, 3, 4, 5, 1, [0] * 24)))
        for name, ends in wrong.items():
            for value in ends + (-1, -2, 1000, -FAR - 1, FAR):
                with self.subTest(name=name, value=value):
                    self.assertEqual(code(**{**good, name: value}, numbers=[0] * 24), [-8])

    def test_out_of_range_with_as_many_numbers_as_they_would_ask_for(self):
        self.assertEqual(code(5, 1, 1, 4, 0, [0] * 5), [-8])
        self.assertEqual(code(0, 1, 1, 4, 0, []), [-8])
        self.assertEqual(code(1, 257, 1, 4, 0, [0] * 257), [-8])
        self.assertEqual(code(1, 1, 257, 4, 0, [0] * 257), [-8])
        self.assertEqual(code(1, 0, 1, 4, 0, []), [-8])
        self.assertEqual(code(1, 1, 0, 4, 0, []), [-8])
        self.assertEqual(code(1, -2, -2, 4, 0, [0] * 4), [-8])
        self.assertEqual(code(-1, -1, 1, 4, 0, [0]), [-8])

    def test_ends_of_the_ranges_are_in(self):
        for kinds, wide, high, e, levels in ((1, 1, 1, 4, 0), (4, 1, 1, 8, 5), (1, 256, 1, 4, 0), (1, 1, 256, 8, 5)):
            numbers = [0, 65535] * 512
            numbers = numbers[:kinds * wide * high]
            self.assertGreater(code(kinds, wide, high, e, levels, numbers)[0], 0)

    def test_too_few_too_many_none(self):
        for many in (0, 1, 22, 23, 25, 26, 48, 30000):
            self.assertEqual(code(2, 3, 4, 5, 1, [0] * many), [-8])
        self.assertEqual(code(1, 1, 1, 4, 0, []), [-8])

    def test_numbers_out_of_range(self):
        for value in (-1, 65536, -FAR - 1, FAR):
            for place in (0, 11, 23):
                numbers = [7] * 24
                numbers[place] = value
                self.assertEqual(code(2, 3, 4, 5, 1, numbers), [-8])


if __name__ == "__main__":
    unittest.main()
