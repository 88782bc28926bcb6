"""What holds for all calls: what is handed in stays as it was, and nothing is kept."""

import unittest

from tests import helper
from tilewise.sheets import code, halve, head, put, read, small, tile, unlike, whole


def forbidden(self, *args, **kwargs):
    raise AssertionError("what is handed in was changed")


class Untouchable(list):
    """A list that may be read alone, so that a change that is undone later shows too."""

    __setitem__ = __delitem__ = __iadd__ = __imul__ = forbidden
    append = extend = insert = pop = remove = clear = sort = reverse = forbidden


SHEETS = ((1, 1, 1, 4, 0, [9]), (2, 20, 18, 4, 3, helper.gentle(2, 20, 18)), (3, 5, 7, 4, 5, helper.wild(3, 5, 7)),
          (4, 33, 3, 5, 1, helper.smooth(4, 33, 3)))


def asked(listed):
    """Of each call that is asked, its name and the answer, over all SHEETS; lists are handed in as listed makes them."""
    out = []
    for kinds, wide, high, e, levels, numbers in SHEETS:
        coded = helper.code(kinds, wide, high, e, levels, numbers)
        out.append(("code", code(kinds, wide, high, e, levels, listed(numbers))))
        out.append(("read", read(listed(coded))))
        out.append(("head", head(listed(coded))))
        out += [("small", small(l, listed(coded))) for l in range(levels + 1)]
        for t, (width, height, part) in enumerate(helper.tile_parts(kinds, wide, high, e, numbers)):
            out.append(("tile", tile(t, listed(coded))))
            out.append(("put", put(t, listed(coded), listed(helper.wild(kinds, width, height)))))
            out.append(("put", put(t, listed(coded), listed(part))))
            out.append(("unlike", unlike(listed(coded), listed(put(t, coded, [7] * len(part))[1:]))))
    for call in (halve, whole):
        out += [(call.__name__, call(listed(row))) for row in helper.rows()]
    return out


def refused(listed):
    """Of each call that is refused, its name and the answer."""
    coded = helper.code(*SHEETS[1])
    spoiled = helper.frame(1, 1, 1, 4, 0, [[1, 1]])
    out = [("code", code(1, 2, 2, 4, 0, listed([1, 2, 3]))), ("code", code(1, 2, 2, 4, 0, listed([1, 2, 3, 65536])))]
    for call in (read, head):
        out += [(call.__name__, call(listed(wrong))) for wrong in ([], [256], [84, 73, 76, 83, 1], coded[:-5])]
    out.append(("read", read(listed(spoiled))))
    out += [("small", small(l, listed(wrong))) for l, wrong in ((0, []), (6, coded), (4, coded), (0, spoiled), (1, [-1]))]
    out += [("put", put(t, listed(wrong), listed(numbers)))
            for t, wrong, numbers in ((0, coded, [1, 2]), (0, coded, [-1]), (4, coded, [0] * 8), (0, [], [1]), (0, [300], []))]
    out += [("unlike", unlike(listed(one), listed(other)))
            for one, other in ((coded, []), ([], coded), (coded, spoiled), (coded, [300]), ([-1], []))]
    for call in (halve, whole):
        out += [(call.__name__, call(listed(row))) for row in helper.wrong_rows()]
    out += [("tile", tile(t, listed(wrong))) for t, wrong in ((0, [300]), (0, []), (-1, coded), (4, coded), (0, spoiled))]
    return out


class Calls(unittest.TestCase):
    def test_what_is_handed_in_stays(self):
        for made in (asked, refused):
            kept = []

            def keep(numbers):
                kept.append((list(numbers), list(numbers)))
                return kept[-1][0]

            self.assertEqual(made(Untouchable), made(keep))
            for handed, copied in kept:
                self.assertEqual(handed, copied)

    def test_second_call_answers_as_the_first(self):
        first = asked(list)
        refusals = refused(list)
        kept = [list(answer) for _, answer in first]
        # What was answered belongs to the one who asked: changing it must change no later answer.
        for _, answer in first:
            answer.clear()
        self.assertEqual([answer for _, answer in asked(list)], kept)
        self.assertEqual(refused(list), refusals)

    def test_answers_are_lists_of_whole_numbers(self):
        for name, answer in asked(list) + refused(list):
            with self.subTest(name):
                self.assertIs(type(answer), list)
                self.assertEqual({type(number) for number in answer}, {int})

    def test_what_is_asked_is_answered_and_what_is_refused_is_not(self):
        self.assertEqual([name for name, answer in asked(list) if answer[0] < 0], [])
        for name, answer in refused(list):
            self.assertIn(answer, ([-8], [-2]), name)

    def test_names_of_the_arguments(self):
        coded = code(kinds=1, wide=1, high=1, e=4, levels=0, numbers=[0])[1:]
        self.assertEqual(read(coded=coded), [0, 1, 1, 1, 0])
        self.assertEqual(head(coded=coded), [1, 1, 1, 1, 4, 0])
        self.assertEqual(tile(t=0, coded=coded), [0, 0, 0, 1, 1, 0])
        self.assertEqual(small(l=0, coded=coded), [0, 1, 1, 1, 0])
        self.assertEqual(put(t=0, coded=coded, numbers=[0]), [18] + coded)
        self.assertEqual(unlike(coded=coded, other=coded), [0])
        self.assertEqual(halve(row=[4, 9, 6]), [0, 6, 8, 4])
        self.assertEqual(whole(row=[6, 8, 4]), [0, 4, 9, 6])


if __name__ == "__main__":
    unittest.main()
