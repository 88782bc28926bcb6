"""Over the whole program: the calls held against one another, and asked in any order."""

import inspect
import unittest

from tests import helper
from tilewise import sheets
from tilewise.sheets import code, halve, head, put, read, small, tile, unlike, whole

CALLS = {"code": ["kinds", "wide", "high", "e", "levels", "numbers"], "read": ["coded"], "head": ["coded"],
         "tile": ["t", "coded"], "small": ["l", "coded"], "put": ["t", "coded", "numbers"],
         "unlike": ["coded", "other"], "halve": ["row"], "whole": ["row"]}


def many_sheets():
    """Sheets of all kinds, from one tile to six, of every e and every number of levels."""
    for place in range(120):
        kinds, e, levels = 1 + place % 4, 4 + place % 5, place % 6
        wide, high = 1 + place * 7 % 40, 1 + place * 11 % 35
        made = (helper.smooth, helper.gentle, helper.wild)[place % 3]
        yield kinds, wide, high, e, levels, made(kinds, wide, high)


class Interface(unittest.TestCase):
    def test_names_and_arguments(self):
        for name, arguments in CALLS.items():
            self.assertEqual(list(inspect.signature(getattr(sheets, name)).parameters), arguments, name)


class Together(unittest.TestCase):
    def test_read_head_tile_and_small_of_0(self):
        for kinds, wide, high, e, levels, numbers in many_sheets():
            told = code(kinds, wide, high, e, levels, numbers)
            coded = told[1:]
            self.assertEqual(told[0], len(coded))
            self.assertEqual(read(coded), [0, kinds, wide, high] + numbers)
            self.assertEqual(small(0, coded), read(coded))
            many = head(coded)[0]
            self.assertEqual(head(coded), [many, kinds, wide, high, e, levels])
            again = [0] * len(numbers)
            for t in range(many):
                again = helper.with_tile(kinds, wide, high, e, again, t, tile(t, coded)[5:])
            self.assertEqual(again, numbers)
            self.assertEqual(tile(many, coded), [-8])
            self.assertEqual(tile(-1, coded), [-8])

    def test_put_and_unlike_of_what_it_answered(self):
        for kinds, wide, high, e, levels, numbers in many_sheets():
            coded = code(kinds, wide, high, e, levels, numbers)[1:]
            for t in range(head(coded)[0]):
                before = tile(t, coded)
                self.assertEqual(put(t, coded, before[5:])[1:], coded)
                after = [65535 - number for number in before[5:]]
                answered = put(t, coded, after)
                self.assertEqual(unlike(coded, answered[1:]), [1, t])
                self.assertEqual(tile(t, answered[1:]), before[:5] + after)
                self.assertEqual(read(answered[1:])[4:], helper.with_tile(kinds, wide, high, e, numbers, t, after))
                self.assertEqual(put(t, answered[1:], before[5:])[1:], coded)
                self.assertEqual(head(answered[1:]), head(coded))

    def test_unlike_names_the_tiles_that_tile_tells_otherwise(self):
        sheets_alike = [(2, 40, 35, 4, 2, made(2, 40, 35)) for made in (helper.smooth, helper.gentle, helper.wild)]
        mixed = helper.with_tile(2, 40, 35, 4, sheets_alike[0][5], 4, helper.wild(2, 16, 16))
        codes = [code(*sheet)[1:] for sheet in sheets_alike + [(2, 40, 35, 4, 2, mixed)]]
        for one in codes:
            for other in codes:
                found = [t for t in range(9) if tile(t, one) != tile(t, other)]
                self.assertEqual(unlike(one, other), [len(found)] + found)

    def test_small_by_halve(self):
        # A sheet of one row and one kind is made small as its tiles' rows are halved.
        for wide, e in ((9, 4), (16, 4), (40, 5), (64, 5), (100, 6), (255, 8)):
            numbers = helper.gentle(1, wide, 1)
            expected = []
            for start in range(0, wide, 2 ** e):
                row = numbers[start:start + 2 ** e]
                expected += halve(row)[1:1 + (len(row) + 1) // 2]
            coded = code(1, wide, 1, e, 1, numbers)[1:]
            self.assertEqual(small(1, coded)[4:], [min(max(number, 0), 65535) for number in expected])

    def test_whole_of_what_halve_answered(self):
        for length in range(1, 257, 5):
            row = [number - 65535 for number in helper.spread(length, 131070, length)]
            self.assertEqual(whole(halve(row)[1:]), [0] + row)
            self.assertEqual(halve(whole(row)[1:]), [0] + row)

    def test_never_longer_than_the_document_says(self):
        for kinds, wide, high, e, levels, numbers in many_sheets():
            told = code(kinds, wide, high, e, levels, numbers)
            self.assertLessEqual(told[0], 13 + 4 * head(told[1:])[0] + 2 * len(numbers))


class InAnyOrder(unittest.TestCase):
    def test_the_same_lists_and_the_same_answers(self):
        sheet = (3, 35, 18, 4, 3, helper.gentle(3, 35, 18))
        numbers, coded = list(sheet[5]), helper.code(*sheet)
        part, row = helper.wild(3, 16, 2), [number - 500 for number in helper.spread(77, 1000, 1)]
        spoiled = helper.frame(3, 35, 18, 4, 3, [[77]] * 6)
        handed = [numbers, coded, part, row, spoiled]
        kept = [list(one) for one in handed]
        asked = [lambda: code(3, 35, 18, 4, 3, numbers), lambda: code(3, 35, 18, 4, 3, part), lambda: read(coded),
                 lambda: read(spoiled), lambda: head(coded), lambda: head(spoiled), lambda: tile(4, coded),
                 lambda: tile(6, coded), lambda: tile(4, spoiled), lambda: small(2, coded), lambda: small(4, coded),
                 lambda: small(1, spoiled), lambda: put(3, coded, part), lambda: put(3, spoiled, part),
                 lambda: put(0, coded, part), lambda: unlike(coded, spoiled), lambda: unlike(coded, coded),
                 lambda: halve(row), lambda: whole(row), lambda: halve(coded), lambda: whole([])]
        first = [ask() for ask in asked]
        # Each call behind each other one.
        for ahead in range(len(asked)):
            for behind in range(len(asked)):
                self.assertEqual(asked[ahead](), first[ahead])
                self.assertEqual(asked[behind](), first[behind])
        self.assertEqual(handed, kept)


if __name__ == "__main__":
    unittest.main()
