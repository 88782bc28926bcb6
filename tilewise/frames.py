"""What stands around the tiles' codes: the head, the table of lengths, the CRC-32."""

from tilewise.layout import tile_places
from tilewise.refusals import NotACode

FIRST_BYTES = (84, 73, 76, 83)
HEAD_LENGTH = 9
CRC_LENGTH = 4
MOST_LEVELS = 5
ALL_ONES = 0xFFFFFFFF
CRC_WORD = 0xEDB88320


class Head:
    def __init__(self, kinds, wide, high, e, levels):
        self.kinds = kinds
        self.wide = wide
        self.high = high
        self.e = e
        self.levels = levels

    def in_range(self):
        return (1 <= self.kinds <= 4 and 1 <= self.wide <= 256 and 1 <= self.high <= 256
                and 4 <= self.e <= 8 and 0 <= self.levels <= MOST_LEVELS)

    def head_bytes(self):
        return list(FIRST_BYTES) + [self.kinds, self.wide - 1, self.high - 1, self.e, self.levels]

    def places(self):
        return tile_places(self.wide, self.high, self.e)

    def answer(self):
        return [self.kinds, self.wide, self.high, self.e, self.levels]


# A code taken apart: its head, and each tile's code as its bytes stand there.
class Parts:
    def __init__(self, head, codes):
        self.head = head
        self.codes = codes


def lowest_first(number, many):
    return [(number >> (8 * i)) & 255 for i in range(many)]


def number_of(some_bytes):
    number = 0
    for i, byte in enumerate(some_bytes):
        number |= byte << (8 * i)
    return number


# What eight steps make of each byte, so that they are not gone through for every byte anew.
def crc_table():
    table = []
    for byte in range(256):
        c = byte
        for step in range(8):
            c = (c >> 1) ^ CRC_WORD if c & 1 else c >> 1
        table.append(c)
    return table


def crc_of(some_bytes):
    table = crc_table()
    c = ALL_ONES
    for byte in some_bytes:
        c = (c >> 8) ^ table[(c ^ byte) & 255]
    return c ^ ALL_ONES


def framed(head, tile_codes):
    coded = head.head_bytes()
    for one in tile_codes:
        coded.extend(lowest_first(len(one), 3))
    for one in tile_codes:
        coded.extend(one)
    return coded + lowest_first(crc_of(coded), CRC_LENGTH)


def crc_is_right(coded):
    cut = len(coded) - CRC_LENGTH
    return crc_of(coded[:cut]) == number_of(coded[cut:])


def head_of(coded):
    if len(coded) < HEAD_LENGTH or tuple(coded[:4]) != FIRST_BYTES:
        raise NotACode()
    head = Head(coded[4], coded[5] + 1, coded[6] + 1, coded[7], coded[8])
    if not head.in_range():
        raise NotACode()
    return head


def table_of(coded, many):
    starts = [HEAD_LENGTH + 3 * i for i in range(many)]
    return [number_of(coded[start:start + 3]) for start in starts]


# Each tile's code, as the table cuts them; whether they are codes isn't looked at.
def tile_codes_of(coded, head):
    many = len(head.places())
    lengths = table_of(coded, many)
    start = HEAD_LENGTH + 3 * many
    # A table that isn't all there is refused here too: then there are fewer bytes than start.
    if min(lengths) < 1 or start + sum(lengths) + CRC_LENGTH != len(coded):
        raise NotACode()
    codes = []
    for length in lengths:
        codes.append(coded[start:start + length])
        start += length
    return codes


def opened(coded):
    head = head_of(coded)
    return Parts(head, tile_codes_of(coded, head))
