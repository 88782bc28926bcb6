"""The calls: whole sheets told in bytes, and read back from them."""

from tilewise.frames import Head, crc_is_right, framed, head_of, tile_codes_of
from tilewise.layout import lay_in, taken_out
from tilewise.refusals import NotACode
from tilewise.tiles import numbers_in_range, tile_code, tile_numbers

MOST_BYTES = 1048576


def sheet_fits(head, numbers):
    # The range comes first: without it the product means nothing.
    if not head.in_range() or len(numbers) != head.kinds * head.wide * head.high:
        return False
    return numbers_in_range(numbers)


def code(kinds, wide, high, e, levels, numbers):
    head = Head(kinds, wide, high, e, levels)
    if not sheet_fits(head, numbers):
        return [-8]
    codes = []
    for place in head.places():
        taken = taken_out(numbers, place, kinds, wide)
        codes.append(tile_code(taken, kinds, place.width, place.height, levels))
    coded = framed(head, codes)
    return [len(coded)] + coded


def bytes_fit(coded):
    if len(coded) > MOST_BYTES:
        return False
    return len(coded) == 0 or (min(coded) >= 0 and max(coded) <= 255)


def sheet_numbers(head, codes):
    numbers = [0] * (head.kinds * head.wide * head.high)
    for place, one in zip(head.places(), codes):
        heard = tile_numbers(one, head.kinds, place.width, place.height, head.levels)
        lay_in(numbers, place, head.kinds, head.wide, heard)
    return numbers


def read_sheet(coded):
    head = head_of(coded)
    codes = tile_codes_of(coded, head)
    if not crc_is_right(coded):
        raise NotACode()
    return [0, head.kinds, head.wide, head.high] + sheet_numbers(head, codes)


def read(coded):
    if not bytes_fit(coded):
        return [-8]
    try:
        return read_sheet(coded)
    except NotACode:
        return [-2]
