"""Promise 7: unlike."""

import itertools
import unittest

from tests import helper
from tilewise.sheets import code, head, put, unlike

# Of 33 by 20 points, so of two rows of three tiles.
SIX = (2, 33, 20, 4, 2, helper.gentle(2, 33, 20))
SIX_CODES = helper.tiles(*SIX)


def six(tiles):
    return helper.frame(*SIX[:5], tiles)


class Right(unittest.TestCase):
    def test_by_hand(self):
        coded = [84, 73, 76, 83, 1, 16, 0, 4, 0, 2, 0, 0, 3, 0, 0, 1, 0, 0, 7, 8, 1, 2, 3, 4]
        self.assertEqual(unlike(coded, coded), [0])
        self.assertEqual(unlike(coded, coded[:15] + [2, 0, 0, 7, 8, 1, 2, 3, 4]), [1, 0])
        self.assertEqual(unlike(coded, coded[:15] + [1, 0, 0, 7, 9, 1, 2, 3, 4]), [1, 1])
        self.assertEqual(unlike(coded, coded[:15] + [1, 1, 0, 6, 8, 1, 2, 3, 4]), [2, 0, 1])
        # The same five bytes, cut otherwise.
        self.assertEqual(unlike(coded, coded[:9] + [3, 0, 0, 2, 0, 0] + coded[15:]), [2, 0, 1])

    def test_a_code_and_itself(self):
        for kinds, wide, high, e, levels, numbers in helper.ordinary_sheets():
            coded = code(kinds, wide, high, e, levels, numbers)[1:]
            self.assertEqual(unlike(coded, coded), [0])
            self.assertEqual(unlike(coded, list(coded)), [0])

    def test_one_tile_some_all(self):
        parts = helper.tile_parts(*SIX[:4], SIX[5])
        coded = code(*SIX)[1:]
        for many in range(7):
            for chosen in itertools.combinations(range(6), many):
                numbers = SIX[5]
                for t in chosen:
                    # The last number alone is another one.
                    part = parts[t][2]
                    numbers = helper.with_tile(*SIX[:4], numbers, t, part[:-1] + [part[-1] + 1 + t])
                other = code(*SIX[:5], numbers)[1:]
                self.assertEqual(unlike(coded, other), [many] + list(chosen))
                self.assertEqual(unlike(other, coded), [many] + list(chosen))

    def test_codes_of_other_lengths(self):
        coded = code(*SIX)[1:]
        longer = 0
        for t, (width, height, _) in enumerate(helper.tile_parts(*SIX[:4], SIX[5])):
            zeros = put(t, coded, [0] * (2 * width * height))[1:]
            wild = put(t, coded, helper.wild(2, width, height))[1:]
            self.assertLess(len(zeros), len(coded))
            longer += len(wild) > len(coded)
            for other in (zeros, wild):
                self.assertEqual(unlike(coded, other), [1, t])
                self.assertEqual(unlike(other, coded), [1, t])
        self.assertGreater(longer, 3)

    def test_many_tiles(self):
        tiles = [[1, t] for t in range(256)]
        others = [[1, t] if t % 3 else [1, t, 0] for t in range(256)]
        expected = list(range(0, 256, 3))
        self.assertEqual(unlike(helper.frame(1, 256, 256, 4, 5, tiles), helper.frame(1, 256, 256, 4, 5, others)),
                         [len(expected)] + expected)

    def test_one_tile_alone(self):
        self.assertEqual(unlike(code(1, 1, 1, 8, 0, [3])[1:], code(1, 1, 1, 8, 0, [3])[1:]), [0])
        self.assertEqual(unlike(code(1, 1, 1, 8, 0, [3])[1:], code(1, 1, 1, 8, 0, [4])[1:]), [1, 0])


class NotLookedAt(unittest.TestCase):
    def test_tiles_that_are_no_code(self):
        spoiled = [[77] * (t + 1) for t in range(6)]
        self.assertEqual(unlike(six(spoiled), six(spoiled)), [0])
        self.assertEqual(unlike(six(spoiled), six(SIX_CODES)), [6, 0, 1, 2, 3, 4, 5])
        for t in range(6):
            self.assertEqual(unlike(six(SIX_CODES), six(SIX_CODES[:t] + [spoiled[t]] + SIX_CODES[t + 1:])), [1, t])
            self.assertEqual(unlike(six(spoiled[:t] + [[9]] + spoiled[t + 1:]), six(spoiled)), [1, t])

    def test_codes_of_the_same_numbers_that_are_not_the_same(self):
        # Told by themselves where the other way is fewer, the numbers are the same and the bytes are not.
        told, plain = helper.tiles(1, 1, 1, 4, 0, [5])[0], helper.plain([5])
        self.assertEqual(unlike(helper.frame(1, 1, 1, 4, 0, [told]), helper.frame(1, 1, 1, 4, 0, [plain])), [1, 0])

    def test_wrong_crcs(self):
        for coded, _ in helper.CODES:
            for wrong in helper.wrong_crcs(coded):
                self.assertEqual(unlike(coded, wrong), [0])
                self.assertEqual(unlike(wrong, coded), [0])
                self.assertEqual(unlike(wrong, wrong), [0])


class Wrong(unittest.TestCase):
    def test_either_side_or_both(self):
        frames = [coded for _, coded in helper.wrong_frames()]
        for wrong in frames:
            for coded, _ in helper.CODES:
                self.assertEqual(unlike(coded, wrong), [-2])
                self.assertEqual(unlike(wrong, coded), [-2])
            self.assertEqual(unlike(wrong, wrong), [-2])
        self.assertEqual([unlike(one, other) for one, other in zip(frames, frames[1:])], [[-2]] * (len(frames) - 1))

    def test_first_nine_bytes(self):
        first = (2, 33, 20, 5, 3)
        coded = helper.frame(*first, [[1, 0], [1, 1]])
        self.assertEqual(unlike(coded, coded), [0])
        for place, value in ((0, 1), (0, 3), (1, 34), (1, 64), (2, 19), (2, 32), (4, 2), (4, 4)):
            other = list(first)
            other[place] = value
            other = helper.frame(*other, [[1, 0], [1, 1]])
            self.assertEqual(head(other)[0], 2)
            self.assertEqual(unlike(coded, other), [-2])
            self.assertEqual(unlike(other, coded), [-2])

    def test_another_e(self):
        # Of one tile whatever e is, so that each by itself is as it must be.
        for e in (4, 5, 6, 7, 8):
            for other in (4, 5, 6, 7, 8):
                self.assertEqual(unlike(helper.frame(1, 9, 9, e, 0, [[1]]), helper.frame(1, 9, 9, other, 0, [[1]])),
                                 [0] if e == other else [-2])

    def test_other_numbers_of_tiles(self):
        one, six_tiles = helper.CODES[0][0], helper.CODES[1][0]
        self.assertEqual(unlike(one, six_tiles), [-2])
        self.assertEqual(unlike(six_tiles, one), [-2])

    def test_bytes_that_may_not_be(self):
        coded = helper.CODES[0][0]
        for wrong in ([0] * 1048577, coded[:-1] + [256], [-1] + coded[1:], [256]):
            for other in (coded, [], coded[:-1], helper.CODES[1][0], wrong):
                self.assertEqual(unlike(wrong, other), [-8])
                self.assertEqual(unlike(other, wrong), [-8])


if __name__ == "__main__":
    unittest.main()
