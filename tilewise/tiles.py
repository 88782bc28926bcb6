"""A tile's code from its numbers, its numbers from its code, and the tile made small."""

from tilewise.bands import band_lengths, bands_of, cut_rows, flat, rows_of
from tilewise.mixing import mixed, unmixed
from tilewise.ranges import HIGHEST, numbers_in_range
from tilewise.refusals import NotACode
from tilewise.telling import BitReader, BitWriter, hear_band, tell_band


def planes_of(numbers, kinds):
    return [numbers[i::kinds] for i in range(kinds)]


# The numbers point by point again, at each point one of each kind.
def woven(planes):
    kinds = len(planes)
    numbers = [0] * (kinds * len(planes[0]))
    for i, plane in enumerate(planes):
        numbers[i::kinds] = plane
    return numbers


def plain_code(numbers):
    coded = [0]
    for number in numbers:
        coded.append(number & 255)
        coded.append(number >> 8)
    return coded


def short_code(numbers, kinds, width, height, levels):
    writer = BitWriter()
    for plane in mixed(planes_of(numbers, kinds)):
        for band in bands_of(cut_rows(plane, width, height), levels):
            tell_band(band, writer)
    return [1] + writer.all_bytes()


def tile_code(numbers, kinds, width, height, levels):
    plain = plain_code(numbers)
    short = short_code(numbers, kinds, width, height, levels)
    return short if len(short) < len(plain) else plain


def plain_numbers(coded, many):
    if len(coded) != 1 + 2 * many:
        raise NotACode()
    return [low + 256 * high for low, high in zip(coded[1::2], coded[2::2])]


def heard_plane(reader, width, height, levels):
    bands = [hear_band(length, reader) for length in band_lengths(width, height, levels)]
    return flat(rows_of(bands, width, height, levels))


def short_numbers(coded, kinds, width, height, levels):
    reader = BitReader(coded[1:])
    return woven(unmixed([heard_plane(reader, width, height, levels) for i in range(kinds)]))


def heard_numbers(coded, kinds, width, height, levels):
    if coded[0] == 0:
        return plain_numbers(coded, kinds * width * height)
    if coded[0] == 1:
        return short_numbers(coded, kinds, width, height, levels)
    raise NotACode()


# Many bytes can be heard as the same numbers, but one code alone is told of them: so they are told again.
def tile_numbers(coded, kinds, width, height, levels):
    numbers = heard_numbers(coded, kinds, width, height, levels)
    if not numbers_in_range(numbers):
        raise NotACode()
    if tile_code(numbers, kinds, width, height, levels) != coded:
        raise NotACode()
    return numbers


# Halved again from its numbers: so a tile told by its numbers themselves is made small as any other is.
def small_plane(plane, width, height, times):
    return bands_of(cut_rows(plane, width, height), times)[0]


# Means lie beyond the numbers they are of where these jump, so what is beyond the range is held at its ends.
def held(number):
    return min(max(number, 0), HIGHEST)


def small_numbers(numbers, kinds, width, height, times):
    planes = mixed(planes_of(numbers, kinds))
    corners = [small_plane(plane, width, height, times) for plane in planes]
    return [held(number) for number in woven(unmixed(corners))]
