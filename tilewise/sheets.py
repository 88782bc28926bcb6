"""The calls: sheets told in bytes, and read back from them whole, tile by tile or small; rows halved and made whole."""

from tilewise.frames import HEAD_LENGTH, MOST_LEVELS, Head, crc_is_right, framed, opened
from tilewise.halving import halve_row, whole_row
from tilewise.layout import lay_in, small_place, taken_out
from tilewise.ranges import check_bytes, numbers_in_range, row_fits
from tilewise.refusals import NotACode, OutOfRange
from tilewise.tiles import small_numbers, tile_code, tile_numbers


def sheet_fits(asked, numbers):
    # The range comes first: without it the product means nothing.
    if not asked.in_range() or len(numbers) != asked.kinds * asked.wide * asked.high:
        return False
    return numbers_in_range(numbers)


def code(kinds, wide, high, e, levels, numbers):
    asked = Head(kinds, wide, high, e, levels)
    if not sheet_fits(asked, numbers):
        return [-8]
    codes = []
    for place in asked.places():
        taken = taken_out(numbers, place, kinds, wide)
        codes.append(tile_code(taken, kinds, place.width, place.height, levels))
    coded = framed(asked, codes)
    return [len(coded)] + coded


def numbers_at(parts, place, one):
    return tile_numbers(one, parts.head.kinds, place.width, place.height, parts.head.levels)


def sheet_numbers(parts):
    kinds = parts.head.kinds
    wide = parts.head.wide
    numbers = [0] * (kinds * wide * parts.head.high)
    for place, one in zip(parts.head.places(), parts.codes):
        lay_in(numbers, place, kinds, wide, numbers_at(parts, place, one))
    return numbers


def read_answer(coded):
    check_bytes(coded)
    parts = opened(coded)
    if not crc_is_right(coded):
        raise NotACode()
    return [0, parts.head.kinds, parts.head.wide, parts.head.high] + sheet_numbers(parts)


def read(coded):
    try:
        return read_answer(coded)
    except OutOfRange:
        return [-8]
    except NotACode:
        return [-2]


def head_answer(coded):
    check_bytes(coded)
    parts = opened(coded)
    return [len(parts.codes)] + parts.head.answer()


def head(coded):
    try:
        return head_answer(coded)
    except OutOfRange:
        return [-8]
    except NotACode:
        return [-2]


def check_tile(t, parts):
    if not 0 <= t < len(parts.codes):
        raise OutOfRange()


def tile_answer(t, coded):
    check_bytes(coded)
    # Bytes that aren't a code are refused ahead of t: how many tiles there are stands in them.
    parts = opened(coded)
    check_tile(t, parts)
    place = parts.head.places()[t]
    return [0, place.x, place.y, place.width, place.height] + numbers_at(parts, place, parts.codes[t])


def tile(t, coded):
    try:
        return tile_answer(t, coded)
    except OutOfRange:
        return [-8]
    except NotACode:
        return [-2]


def small_tile(parts, place, one, times):
    numbers = numbers_at(parts, place, one)
    return small_numbers(numbers, parts.head.kinds, place.width, place.height, times)


def small_sheet(parts, times):
    kinds = parts.head.kinds
    places = parts.head.places()
    last = small_place(places[-1], parts.head.e, times)
    wide = last.x + last.width
    high = last.y + last.height
    numbers = [0] * (kinds * wide * high)
    for place, one in zip(places, parts.codes):
        lay_in(numbers, small_place(place, parts.head.e, times), kinds, wide, small_tile(parts, place, one, times))
    return [kinds, wide, high] + numbers


def small_answer(l, coded):
    check_bytes(coded)
    if not 0 <= l <= MOST_LEVELS:
        raise OutOfRange()
    parts = opened(coded)
    if l > parts.head.levels:
        raise OutOfRange()
    return [0] + small_sheet(parts, l)


def small(l, coded):
    try:
        return small_answer(l, coded)
    except OutOfRange:
        return [-8]
    except NotACode:
        return [-2]


def put_answer(t, coded, numbers):
    check_bytes(coded)
    if not numbers_in_range(numbers):
        raise OutOfRange()
    parts = opened(coded)
    check_tile(t, parts)
    kinds = parts.head.kinds
    place = parts.head.places()[t]
    if len(numbers) != kinds * place.width * place.height:
        raise OutOfRange()
    codes = list(parts.codes)
    codes[t] = tile_code(numbers, kinds, place.width, place.height, parts.head.levels)
    fresh = framed(parts.head, codes)
    return [len(fresh)] + fresh


def put(t, coded, numbers):
    try:
        return put_answer(t, coded, numbers)
    except OutOfRange:
        return [-8]
    except NotACode:
        return [-2]


def unlike_answer(coded, other):
    # Both are looked at for -8 ahead of either for -2.
    check_bytes(coded)
    check_bytes(other)
    codes = opened(coded).codes
    others = opened(other).codes
    if coded[:HEAD_LENGTH] != other[:HEAD_LENGTH]:
        raise NotACode()
    found = [t for t in range(len(codes)) if codes[t] != others[t]]
    return [len(found)] + found


def unlike(coded, other):
    try:
        return unlike_answer(coded, other)
    except OutOfRange:
        return [-8]
    except NotACode:
        return [-2]


def halve(row):
    if not row_fits(row):
        return [-8]
    return [0] + halve_row(row)


def whole(row):
    if not row_fits(row):
        return [-8]
    return [0] + whole_row(row)
