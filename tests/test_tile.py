"""Promise 4: tile."""

import unittest

from tests import helper, test_read
from tilewise.sheets import read, tile

FAR = 2147483647
TWO_TILES = [84, 73, 76, 83, 1, 16, 0, 4, 0, 7, 0, 0, 2, 0, 0, 1, 0, 0, 0, 0, 0, 0, 1, 80, 0, 0, 0, 0]
# Of 33 by 20 points, so of two rows of three tiles.
SIX = (2, 33, 20, 4, 2, helper.gentle(2, 33, 20))


def asked_for_each(coded, many):
    return [tile(t, coded) for t in range(many)]


class Right(unittest.TestCase):
    def test_by_hand(self):
        self.assertEqual(tile(0, [84, 73, 76, 83, 1, 1, 1, 4, 1, 4, 0, 0, 1, 177, 12, 64, 9, 238, 255, 229]),
                         [0, 0, 0, 2, 2, 10, 12, 14, 20])
        self.assertEqual(tile(0, [84, 73, 76, 83, 3, 0, 0, 8, 5, 4, 0, 0, 1, 209, 84, 96, 50, 5, 45, 68]),
                         [0, 0, 0, 1, 1, 10, 20, 33])
        self.assertEqual(tile(0, TWO_TILES), [0, 0, 0, 16, 1] + [0] * 16)
        self.assertEqual(tile(1, TWO_TILES), [0, 16, 0, 1, 1, 5])

    def test_places(self):
        coded = helper.code(*SIX)
        self.assertEqual([answered[:5] for answered in asked_for_each(coded, 6)],
                         [[0, 0, 0, 16, 16], [0, 16, 0, 16, 16], [0, 32, 0, 1, 16],
                          [0, 0, 16, 16, 4], [0, 16, 16, 16, 4], [0, 32, 16, 1, 4]])

    def test_all_sheets(self):
        for kinds, wide, high, e, levels, numbers in helper.all_sheets():
            with self.subTest(kinds=kinds, wide=wide, high=high, e=e, levels=levels):
                expected = helper.tile_answers(kinds, wide, high, e, numbers)
                coded = helper.code(kinds, wide, high, e, levels, numbers)
                self.assertEqual(asked_for_each(coded, len(expected)), expected)

    def test_many_tiles(self):
        numbers = helper.gentle(1, 250, 70)
        coded = helper.code(1, 250, 70, 4, 3, numbers)
        self.assertEqual(asked_for_each(coded, 80), helper.tile_answers(1, 250, 70, 4, numbers))

    def test_all_together_are_the_sheet(self):
        for kinds, wide, high, e, levels in ((1, 40, 35, 4, 1), (2, 33, 20, 4, 2), (3, 17, 50, 4, 5), (4, 70, 33, 5, 0)):
            numbers = helper.gentle(kinds, wide, high)
            coded = helper.code(kinds, wide, high, e, levels, numbers)
            sheet = {}
            for answered in asked_for_each(coded, -(-wide // 2 ** e) * -(-high // 2 ** e)):
                left, top, width, height = answered[1:5]
                for place, number in enumerate(answered[5:]):
                    point, kind = divmod(place, kinds)
                    sheet[top + point // width, left + point % width, kind] = number
            self.assertEqual([sheet[key] for key in sorted(sheet)], numbers)
            self.assertEqual(read(coded)[4:], numbers)


class NotLookedAt(unittest.TestCase):
    def test_other_tiles(self):
        right = helper.tiles(*SIX)
        expected = helper.tile_answers(*SIX[:4], SIX[5])
        for place in range(6):
            for spoiled in ([0], [9], right[place] + [0], right[place][:-1], [1] + [255] * 50, [0] * 2000):
                wrong = helper.frame(*SIX[:5], right[:place] + [spoiled] + right[place + 1:])
                self.assertEqual(read(wrong), [-2])
                for t in range(6):
                    self.assertEqual(tile(t, wrong), [-2] if t == place else expected[t])

    def test_all_others(self):
        right = helper.tiles(*SIX)
        expected = helper.tile_answers(*SIX[:4], SIX[5])
        for t in range(6):
            wrong = helper.frame(*SIX[:5], [right[i] if i == t else [77] * (i + 1) for i in range(6)])
            self.assertEqual(asked_for_each(wrong, 6), [expected[i] if i == t else [-2] for i in range(6)])

    def test_crc(self):
        for coded, several in helper.CODES:
            many = 6 if several else 1
            right = asked_for_each(coded, many)
            self.assertEqual([answered[0] for answered in right], [0] * many)
            for wrong in helper.wrong_crcs(coded):
                self.assertEqual(asked_for_each(wrong, many), right)


class WrongPlace(unittest.TestCase):
    def test_out_of_range(self):
        for coded, several in helper.CODES:
            many = 6 if several else 1
            for t in (-1, -many, many, many + 1, 1000, -FAR - 1, FAR):
                self.assertEqual(tile(t, coded), [-8])
            self.assertEqual(tile(many - 1, coded)[0], 0)

    def test_out_of_range_where_tiles_are_no_code(self):
        for coded in helper.loose_frames():
            for t in (-1, 6, FAR):
                self.assertEqual(tile(t, coded), [-8])

    def test_wrong_frame_whatever_t_is(self):
        for why, coded in helper.wrong_frames():
            with self.subTest(why):
                for t in (0, -1, 1, 256, FAR):
                    self.assertEqual(tile(t, coded), [-2])

    def test_bytes_that_may_not_be(self):
        for t in (0, -1, FAR):
            self.assertEqual(tile(t, [0] * 1048577), [-8])
            self.assertEqual(tile(t, TWO_TILES[:-1] + [256]), [-8])
            self.assertEqual(tile(t, [-1] + TWO_TILES[1:]), [-8])


class WrongTile(test_read.WrongTile):
    """All that read is tested for, asked of the tile itself."""

    def refused(self, kinds, wide, high, e, levels, tiles, place=0):
        self.assertEqual(tile(place, helper.frame(kinds, wide, high, e, levels, tiles)), [-2])

    def heard(self, kinds, wide, high, e, levels, tiles, numbers):
        coded = helper.frame(kinds, wide, high, e, levels, tiles)
        self.assertEqual(asked_for_each(coded, len(tiles)), helper.tile_answers(kinds, wide, high, e, numbers))

    def test_another_tiles_code(self):
        numbers = helper.gentle(1, 40, 16)
        first, second, narrow = helper.tiles(1, 40, 16, 4, 1, numbers)
        self.assertEqual(tile(2, helper.frame(1, 40, 16, 4, 1, [first, second, first])), [-2])
        self.assertEqual(tile(0, helper.frame(1, 40, 16, 4, 1, [narrow, second, narrow])), [-2])
        # Tiles of the same size may have each other's.
        self.assertEqual(tile(0, helper.frame(1, 40, 16, 4, 1, [second, first, narrow]))[5:],
                         helper.tile_parts(1, 40, 16, 4, numbers)[1][2])


if __name__ == "__main__":
    unittest.main()
