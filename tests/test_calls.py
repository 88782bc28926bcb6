"""What holds for all calls: what is handed in stays as it was, and nothing is kept."""

import unittest

from tests import helper
from tilewise.sheets import code, read


def forbidden(self, *args, **kwargs):
    raise AssertionError("what is handed in was changed")


class Untouchable(list):
    """A list that may be read alone, so that a change that is undone later shows too."""

    __setitem__ = __delitem__ = __iadd__ = __imul__ = forbidden
    append = extend = insert = pop = remove = clear = sort = reverse = forbidden


SHEETS = ((1, 1, 1, 4, 0, [9]), (2, 20, 18, 4, 3, helper.gentle(2, 20, 18)), (3, 5, 7, 4, 5, helper.wild(3, 5, 7)),
          (4, 33, 3, 5, 1, helper.smooth(4, 33, 3)))


class Calls(unittest.TestCase):
    def test_what_is_handed_in_stays(self):
        for kinds, wide, high, e, levels, numbers in SHEETS:
            expected = helper.code(kinds, wide, high, e, levels, numbers)
            self.assertEqual(code(kinds, wide, high, e, levels, Untouchable(numbers)), [len(expected)] + expected)
            self.assertEqual(read(Untouchable(expected)), [0, kinds, wide, high] + numbers)
            kept_numbers, kept_code = list(numbers), list(expected)
            code(kinds, wide, high, e, levels, kept_numbers)
            read(kept_code)
            self.assertEqual((kept_numbers, kept_code), (numbers, expected))

    def test_what_is_refused_stays(self):
        self.assertEqual(code(1, 2, 2, 4, 0, Untouchable([1, 2, 3])), [-8])
        self.assertEqual(code(1, 2, 2, 4, 0, Untouchable([1, 2, 3, 65536])), [-8])
        self.assertEqual(read(Untouchable([84, 73, 76, 83, 1])), [-2])
        self.assertEqual(read(Untouchable(helper.frame(1, 1, 1, 4, 0, [[1, 1]]))), [-2])

    def test_second_call_answers_as_the_first(self):
        for kinds, wide, high, e, levels, numbers in SHEETS:
            first = code(kinds, wide, high, e, levels, numbers)
            coded = first[1:]
            heard = read(coded)
            kept = list(first), list(heard)
            # What was answered belongs to the one who asked: changing it must change no later answer.
            first.clear()
            heard.clear()
            self.assertEqual(code(1, 1, 1, 4, 0, [-1]), [-8])
            self.assertEqual(read([1, 2, 3]), [-2])
            self.assertEqual((code(kinds, wide, high, e, levels, numbers), read(coded)), kept)

    def test_answers_are_lists_of_whole_numbers(self):
        for kinds, wide, high, e, levels, numbers in SHEETS:
            told = code(kinds, wide, high, e, levels, numbers)
            for answered in (told, read(told[1:]), code(0, 0, 0, 0, 0, []), read([])):
                self.assertIs(type(answered), list)
                self.assertEqual({type(number) for number in answered}, {int})

    def test_names_of_the_arguments(self):
        coded = code(kinds=1, wide=1, high=1, e=4, levels=0, numbers=[0])
        self.assertEqual(read(coded=coded[1:]), [0, 1, 1, 1, 0])


if __name__ == "__main__":
    unittest.main()
