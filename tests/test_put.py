"""Promise 6: put."""

import unittest

from tests import helper
from tilewise.sheets import code, put, read

FAR = 2147483647
# Of 33 by 20 points, so of two rows of three tiles.
SIX = (2, 33, 20, 4, 2, helper.gentle(2, 33, 20))


def answer(coded):
    return [len(coded)] + coded


def other_parts(kinds, width, height):
    """Numbers of many sorts for one tile: told in more bytes than before, in fewer, and by themselves."""
    many = kinds * width * height
    return [helper.wild(kinds, width, height), helper.smooth(kinds, width, height), [0] * many, [65535] * many,
            helper.spread(many, 300, many)]


class ByHand(unittest.TestCase):
    def test_one_tile(self):
        # 10 12 / 14 20, halved once, is told in 177 12 64; the CRC handed in and the tile's bytes may be any.
        expected = [20, 84, 73, 76, 83, 1, 1, 1, 4, 1, 4, 0, 0, 1, 177, 12, 64, 9, 238, 255, 229]
        self.assertEqual(put(0, expected[1:], [10, 12, 14, 20]), expected)
        for bytes_before in ([9], [1, 177], [0] * 9, [1] * 40):
            before = helper.frame(1, 2, 2, 4, 1, [bytes_before])
            self.assertEqual(put(0, before, [10, 12, 14, 20]), expected)
            self.assertEqual(put(0, before[:-4] + [1, 2, 3, 4], [10, 12, 14, 20]), expected)

    def test_two_tiles(self):
        # 5 is 01010, 31 is 11101110; 32 takes three bytes either way.
        head, zeros = [84, 73, 76, 83, 1, 16, 0, 4, 0, 7, 0, 0], [1, 0, 0, 0, 0, 0, 0]
        before = helper.seal(head + [2, 0, 0] + zeros + [1, 80])
        self.assertEqual(put(1, before, [31]), answer(helper.seal(head + [2, 0, 0] + zeros + [1, 238])))
        self.assertEqual(put(1, before, [32]), answer(helper.seal(head + [3, 0, 0] + zeros + [0, 32, 0])))
        self.assertEqual(put(0, before, [0] * 16), answer(before))


class Right(unittest.TestCase):
    def check(self, kinds, wide, high, e, levels, numbers):
        coded = helper.code(kinds, wide, high, e, levels, numbers)
        for t, (width, height, part) in enumerate(helper.tile_parts(kinds, wide, high, e, numbers)):
            self.assertEqual(put(t, coded, part), answer(coded))
            for other in other_parts(kinds, width, height):
                with self.subTest(kinds=kinds, wide=wide, high=high, e=e, levels=levels, t=t):
                    sheet = helper.with_tile(kinds, wide, high, e, numbers, t, other)
                    answered = put(t, coded, other)
                    self.assertEqual(answered, answer(helper.code(kinds, wide, high, e, levels, sheet)))
                    self.assertEqual(answered, code(kinds, wide, high, e, levels, sheet))
                    self.assertEqual(read(answered[1:]), [0, kinds, wide, high] + sheet)

    def test_each_tile(self):
        for kinds, wide, high, e, levels in ((1, 1, 1, 4, 0), (1, 5, 3, 8, 1), (2, 33, 20, 4, 2), (3, 17, 17, 4, 5),
                                             (4, 20, 9, 4, 3), (1, 40, 3, 5, 4), (1, 1, 40, 4, 1), (3, 40, 1, 4, 0)):
            self.check(kinds, wide, high, e, levels, helper.gentle(kinds, wide, high))

    def test_one_after_another(self):
        numbers = helper.gentle(3, 35, 18)
        coded = code(3, 35, 18, 4, 2, [0] * len(numbers))[1:]
        for t, (_, _, part) in reversed(list(enumerate(helper.tile_parts(3, 35, 18, 4, numbers)))):
            coded = put(t, coded, part)[1:]
        self.assertEqual(coded, helper.code(3, 35, 18, 4, 2, numbers))

    def test_ends_of_the_range(self):
        for number in (0, 65535):
            self.assertEqual(put(0, helper.code(1, 1, 1, 4, 0, [7]), [number]), code(1, 1, 1, 4, 0, [number]))


class NotLookedAt(unittest.TestCase):
    def test_tiles_that_are_no_code_stay(self):
        right = helper.tiles(*SIX)
        spoiled = [[77] * (10 * i + 1) for i in range(6)]
        for t, (_, _, part) in enumerate(helper.tile_parts(*SIX[:4], SIX[5])):
            expected = spoiled[:t] + [right[t]] + spoiled[t + 1:]
            self.assertEqual(put(t, helper.frame(*SIX[:5], spoiled), part), answer(helper.frame(*SIX[:5], expected)))

    def test_wrong_crc_is_made_right(self):
        for coded, several in helper.CODES:
            t = 2 if several else 0
            numbers = list(range(48)) if several else [1, 2, 3, 4]
            right = put(t, coded, numbers)
            self.assertEqual(right[1:], helper.seal(right[1:-4]))
            self.assertEqual(read(right[1:])[0], 0)
            for wrong in helper.wrong_crcs(coded):
                self.assertEqual(put(t, wrong, numbers), right)


class Wrong(unittest.TestCase):
    def test_numbers_out_of_range_whatever_else(self):
        wrong = [coded for _, coded in helper.wrong_frames()][::9] + list(helper.loose_frames())[::9]
        for coded in [helper.CODES[0][0], helper.CODES[1][0], []] + wrong:
            for t in (0, -1, 6, FAR):
                for value in (-1, 65536, -FAR - 1, FAR):
                    for numbers in ([value], [value, 1, 2, 3], [1, 2, value, 3], [1, 2, 3, value], [0] * 47 + [value]):
                        self.assertEqual(put(t, coded, numbers), [-8])

    def test_t_out_of_range(self):
        for coded, several in helper.CODES:
            many = 6 if several else 1
            for t in (-1, -many, many, many + 1, 1000, -FAR - 1, FAR):
                for numbers in ([1, 2, 3, 4], [0] * 768, list(range(6)), []):
                    self.assertEqual(put(t, coded, numbers), [-8])

    def test_too_few_too_many_none(self):
        coded = helper.code(*SIX)
        for t, (width, height, _) in enumerate(helper.tile_parts(*SIX[:4], SIX[5])):
            many = 2 * width * height
            self.assertGreater(put(t, coded, [5] * many)[0], 0)
            for other in (0, 1, many - 2, many - 1, many + 1, many + 2, 2 * many, width * height, 30000):
                self.assertEqual(put(t, coded, [5] * other), [-8])

    def test_wrong_frame_whatever_t_and_the_numbers_are(self):
        for why, coded in helper.wrong_frames():
            with self.subTest(why):
                for t in (0, -1, 1, 6, FAR):
                    for numbers in ([], [1], [1, 2, 3, 4], [0] * 768):
                        self.assertEqual(put(t, coded, numbers), [-2])

    def test_bytes_that_may_not_be(self):
        coded = helper.CODES[0][0]
        for t in (0, -1, 1):
            for numbers in ([], [1, 2, 3, 4]):
                self.assertEqual(put(t, [0] * 1048577, numbers), [-8])
                self.assertEqual(put(t, coded[:-1] + [256], numbers), [-8])
                self.assertEqual(put(t, [-1] + coded[1:], numbers), [-8])


if __name__ == "__main__":
    unittest.main()
