"""What several tests need: sheets to tell, and the document's words followed step by step, apart from the program."""

import zlib


def seal(coded):
    """The bytes and their CRC-32, lowest byte first."""
    return list(coded) + list(zlib.crc32(bytes(coded)).to_bytes(4, "little"))


def frame(kinds, wide, high, e, levels, tiles):
    """A sheet's bytes around any tiles' codes, with a right table and a right CRC-32."""
    out = [84, 73, 76, 83, kinds, wide - 1, high - 1, e, levels]
    for told in tiles:
        out += list(len(told).to_bytes(3, "little"))
    for told in tiles:
        out += told
    return seal(out)


def spread(count, top, seed):
    """Numbers from 0 to top that look thrown together, the same ones each time."""
    out = []
    state = seed * 2654435761 + 12345
    for _ in range(count):
        state = (state * 6364136223846793005 + 1442695040888963407) % 2 ** 64
        out.append((state >> 33) % (top + 1))
    return out


def smooth(kinds, wide, high):
    """A sheet that rises slowly to the right and downwards, a little otherwise in each kind."""
    return [1000 * (kind + 1) + 3 * x + 2 * y + (x * y) // 16 + kind
            for y in range(high) for x in range(wide) for kind in range(kinds)]


def wild(kinds, wide, high):
    return spread(kinds * wide * high, 65535, kinds + 5 * wide + 1031 * high)


def gentle(kinds, wide, high):
    """Slowly rising, with small unevenness of both signs."""
    noise = spread(kinds * wide * high, 40, 7)
    return [base + jump for base, jump in zip(smooth(kinds, wide, high), noise)]


def halve(x):
    """A row halved, point by point as "A row halved" says it."""
    n = len(x)
    if n == 1:
        return list(x)

    def at(i):
        return x[1] if i == -1 else x[n - 2] if i == n else x[i]

    d = []
    while 2 * len(d) + 1 < n:
        i = len(d)
        d.append(at(2 * i + 1) - (at(2 * i) + at(2 * i + 2)) // 2)
    s = []
    while 2 * len(s) < n:
        i = len(s)
        s.append(x[2 * i] + (d[max(i - 1, 0)] + d[min(i, len(d) - 1)] + 2) // 4)
    return s + d


def whole(row):
    """The row that this one is when it's halved, point by point."""
    n = len(row)
    if n == 1:
        return list(row)
    s, d = row[:(n + 1) // 2], row[(n + 1) // 2:]
    x = {2 * i: s[i] - (d[max(i - 1, 0)] + d[min(i, len(d) - 1)] + 2) // 4 for i in range(len(s))}
    x[n] = x.get(n, x.get(n - 2))
    for i in range(len(d)):
        x[2 * i + 1] = d[i] + (x[2 * i] + x[2 * i + 2]) // 2
    return [x[i] for i in range(n)]


def halve_in_place(grid, columns, rows):
    """The corner of a grid halved where it lies: all its rows, then all its columns."""
    for y in range(rows):
        grid[y][:columns] = halve(grid[y][:columns])
    for x in range(columns):
        column = halve([grid[y][x] for y in range(rows)])
        for y in range(rows):
            grid[y][x] = column[y]


def whole_in_place(grid, columns, rows):
    """A halved corner made whole where it lies."""
    for x in range(columns):
        column = whole([grid[y][x] for y in range(rows)])
        for y in range(rows):
            grid[y][x] = column[y]
    for y in range(rows):
        grid[y][:columns] = whole(grid[y][:columns])


def halve_often(grid, levels):
    """The grid halved where it lies; the corners' widths and heights, from the whole grid on."""
    sizes = [(len(grid[0]), len(grid))]
    for _ in range(levels):
        halve_in_place(grid, *sizes[-1])
        sizes.append((-(-sizes[-1][0] // 2), -(-sizes[-1][1] // 2)))
    return sizes


def bands(grid, levels):
    """The bands of one kind's grid, each a list of numbers; the grid is halved."""
    sizes = halve_often(grid, levels)

    def area(left, right, top, bottom):
        return [grid[y][x] for y in range(top, bottom) for x in range(left, right)]

    out = [area(0, sizes[-1][0], 0, sizes[-1][1])]
    for level in range(levels - 1, -1, -1):
        (w, h), (cw, ch) = sizes[level], sizes[level + 1]
        out += [area(cw, w, 0, ch), area(0, cw, ch, h), area(cw, w, ch, h)]
    return out


def number_bits(z, k, long_way=False):
    """One number as a text of 0 and 1."""
    m = 2 * z if z >= 0 else -2 * z - 1
    q = m // 2 ** k
    if q < 24 and not long_way:
        low = bin(m % 2 ** k)[2:].zfill(k) if k else ""
        return "1" * q + "0" + low
    return "1" * 24 + bin(m)[2:].zfill(24)


def band_bits(band, long_places=()):
    """A band as a text of 0 and 1; at the long places the long way is taken, whether it must be or not."""
    a, c, out = 16, 1, ""
    for place, z in enumerate(band):
        k = next(k for k in range(40) if c * 2 ** k >= a)
        out += number_bits(z, k, place in long_places)
        a, c = a + abs(z), c + 1
        if c == 64:
            a, c = a // 2, c // 2
    return out


def packed(bits):
    bits += "0" * (-len(bits) % 8)
    return [int(bits[i:i + 8], 2) for i in range(0, len(bits), 8)]


def mixed_grids(kinds, wide, high, numbers):
    """A tile's kinds mixed, a grid of rows for each."""
    points = [list(numbers[i:i + kinds]) for i in range(0, len(numbers), kinds)]
    if kinds >= 3:
        points = [[(p[0] + 2 * p[1] + p[2]) // 4, p[2] - p[1], p[0] - p[1]] + p[3:] for p in points]
    return [[[points[y * wide + x][kind] for x in range(wide)] for y in range(high)] for kind in range(kinds)]


def tile_bands(kinds, wide, high, levels, numbers):
    """All bands of a tile, kind by kind."""
    return [band for grid in mixed_grids(kinds, wide, high, numbers) for band in bands(grid, levels)]


def short(kinds, wide, high, levels, numbers):
    """A tile told in bits, whether that is its code or not; the numbers may be out of range."""
    return [1] + packed("".join(band_bits(band) for band in tile_bands(kinds, wide, high, levels, numbers)))


def plain(numbers):
    """A tile told by its numbers themselves, whether that is its code or not."""
    return [0] + [byte for number in numbers for byte in (number % 256, number // 256)]


def tile_parts(kinds, wide, high, e, numbers):
    """(width, height, numbers) of each tile of a sheet."""
    side, out = 2 ** e, []
    for top in range(0, high, side):
        for left in range(0, wide, side):
            right, bottom = min(left + side, wide), min(top + side, high)
            out.append((right - left, bottom - top,
                        [numbers[(y * wide + x) * kinds + kind]
                         for y in range(top, bottom) for x in range(left, right) for kind in range(kinds)]))
    return out


def tiles(kinds, wide, high, e, levels, numbers):
    """The tiles' codes of a sheet."""
    out = []
    for width, height, part in tile_parts(kinds, wide, high, e, numbers):
        one, other = short(kinds, width, height, levels, part), plain(part)
        out.append(one if len(one) < len(other) else other)
    return out


def code(kinds, wide, high, e, levels, numbers):
    """A sheet's code."""
    return frame(kinds, wide, high, e, levels, tiles(kinds, wide, high, e, levels, numbers))


def tile_answers(kinds, wide, high, e, numbers):
    """What tile is to answer for each tile of a sheet: 0, x, y, width, height, its numbers."""
    side = 2 ** e
    across = -(-wide // side)
    return [[0, side * (t % across), side * (t // across), width, height] + part
            for t, (width, height, part) in enumerate(tile_parts(kinds, wide, high, e, numbers))]


def small_tile(kinds, wide, high, levels, l, numbers):
    """(width, height, numbers) of a tile made small: halved, then undone but for the first l halvings."""
    grids = mixed_grids(kinds, wide, high, numbers)
    for grid in grids:
        sizes = halve_often(grid, levels)
        for level in range(levels - 1, l - 1, -1):
            whole_in_place(grid, *sizes[level])
    width, height = sizes[l]
    out = []
    for y in range(height):
        for x in range(width):
            point = [grid[y][x] for grid in grids]
            if kinds >= 3:
                green = point[0] - (point[1] + point[2]) // 4
                point[:3] = [point[2] + green, green, point[1] + green]
            out += [0 if number < 0 else 65535 if number > 65535 else number for number in point]
    return width, height, out


def small(kinds, wide, high, e, levels, l, numbers):
    """What small is to answer: 0, kinds, width, height, numbers."""
    across = -(-wide // 2 ** e)
    done = [small_tile(kinds, width, height, levels, l, part)
            for width, height, part in tile_parts(kinds, wide, high, e, numbers)]
    out = [0, kinds, sum(tile[0] for tile in done[:across]), sum(tile[1] for tile in done[::across])]
    for first in range(0, len(done), across):
        for y in range(done[first][1]):
            for width, _, part in done[first:first + across]:
                out += part[y * width * kinds:(y + 1) * width * kinds]
    return out


def with_tile(kinds, wide, high, e, numbers, t, part):
    """The sheet's numbers with others in one of its tiles."""
    out, part = list(numbers), list(part)
    side = 2 ** e
    across = -(-wide // side)
    for y in range(high):
        for x in range(wide):
            if y // side * across + x // side == t:
                out[(y * wide + x) * kinds:(y * wide + x + 1) * kinds] = part[:kinds]
                del part[:kinds]
    return out


def ordinary_sheets():
    """Sheets of all kinds, sides and levels, of one tile and of several, smooth and wild: what code is handed."""
    for kinds in (1, 2, 3, 4):
        for e in (4, 5, 6, 7, 8):
            for levels in (0, 1, 2, 3, 4, 5):
                for wide, high in ((3, 7), (18, 21)):
                    yield kinds, wide, high, e, levels, gentle(kinds, wide, high)
    for wide, high in ((1, 1), (1, 18), (19, 1), (2, 2), (5, 3), (16, 16), (17, 33), (40, 20)):
        for kinds, levels in ((1, 5), (2, 1), (3, 3), (4, 2)):
            for made in (smooth, gentle, wild):
                yield kinds, wide, high, 4, levels, made(kinds, wide, high)
    for wide, high, e in ((33, 16, 4), (65, 2, 6), (2, 129, 7), (31, 47, 5)):
        yield 1, wide, high, e, 2, gentle(1, wide, high)


def thin_sheets():
    """One point, one row, one column, and levels beyond what there is to halve."""
    for wide, high in ((1, 1), (256, 1), (1, 256), (255, 1), (1, 255), (2, 1), (1, 2), (3, 1), (1, 3)):
        for levels in (0, 1, 5):
            for e in (4, 8):
                yield 1, wide, high, e, levels, gentle(1, wide, high)
                yield 4, wide, high, e, levels, gentle(4, wide, high)
    for levels in (1, 2, 3, 4, 5):
        yield 3, 3, 2, 4, levels, gentle(3, 3, 2)
        yield 1, 16, 17, 4, levels, gentle(1, 16, 17)


def harsh_sheets():
    """The lowest and the highest number side by side."""
    for kinds in (1, 2, 3, 4):
        for levels in (0, 1, 5):
            board = [65535 * ((x + y + kind) % 2) for y in range(20) for x in range(20) for kind in range(kinds)]
            lonely = [0] * (kinds * 400)
            lonely[kinds * 210] = 65535
            for numbers in (board, lonely, [65535 - number for number in lonely]):
                yield kinds, 20, 20, 5, levels, numbers


def long_bands():
    """Bands around and beyond 64 numbers; in the last one a is halved down to 0."""
    for wide in (63, 64, 65, 66, 95, 96, 97, 200):
        for top in (1, 9, 300, 5000):
            yield 1, wide, 1, 8, 0, spread(wide, top, wide + top)
    yield 1, 256, 2, 8, 0, [0] * 400 + [3, 0, 70] + [0] * 109


def close_sheets():
    """Sheets of one tile whose two ways of being told are about as long."""
    for top in range(10, 1200, 9):
        yield 1, 4, 3, 4, 2, spread(12, top, top)


def all_sheets():
    for made in (ordinary_sheets, thin_sheets, harsh_sheets, long_bands, close_sheets):
        yield from made()


# Rows and what they are halved, worked out by hand; behind each how.
ROWS_BY_HAND = (
    ([7], [7]),  # one stays
    ([10, 12], [11, 2]),  # 12 - 20/2 = 2; 10 + 6/4 = 11
    ([12, 10], [11, -2]),  # 10 - 24/2 = -2; 12 + -2/4 = 12 - 1
    ([0, 1], [1, 1]),  # 1 - 0; 0 + 4/4
    ([1, 0], [1, -1]),  # 0 - 2/2 = -1; 1 + 0/4
    ([4, 9, 6], [6, 8, 4]),  # 9 - 10/2 = 4; 4 + 10/4 = 6, 6 + 10/4 = 8
    ([-4, -9, -6], [-6, -8, -4]),  # -9 + 5 = -4; -4 + -6/4 = -4 - 2, -6 - 2
    ([0, 0, 1], [0, 1, 0]),  # 0 - 1/2 = 0; 0 + 2/4 = 0, 1 + 2/4 = 1
    ([0, 0, -1], [1, 0, 1]),  # 0 - -1/2 = 1; 0 + 4/4 = 1, -1 + 4/4 = 0
    ([1, 2, 3, 4], [1, 3, 0, 1]),  # 2 - 4/2 = 0, 4 - 6/2 = 1; 1 + 2/4 = 1, 3 + 3/4 = 3
    ([8, -3, 5, 2], [4, 2, -9, -3]),  # -3 - 13/2 = -9, 2 - 10/2 = -3; 8 + -16/4 = 4, 5 + -10/4 = 5 - 3
    ([0, 10, 0, 20, 0], [5, 8, 10, 10, 20]),  # 10, 20; 0 + 22/4 = 5, 32/4 = 8, 42/4 = 10
    ([-1048576, 1048576], [0, 2097152]),  # 1048576 + 1048576; -1048576 + 4194306/4 = 1048576 - 1048576
    ([1048576, -1048576], [0, -2097152]),  # -2097152; 1048576 + -4194302/4 = 1048576 - 1048576
    ([-1048576, 1048576, -1048576], [0, 0, 2097152]),  # as of two, twice
)


def rows():
    """Rows for halve: by hand, of 1 to 256 numbers, small and large, both ends side by side."""
    for row, _ in ROWS_BY_HAND:
        yield list(row)
    for length in (1, 2, 3, 4, 5, 6, 7, 16, 17, 63, 64, 65, 127, 128, 129, 254, 255, 256):
        for top in (1, 2, 3, 9, 500, 65535, 1048576):
            numbers = spread(length, 2 * top, length + top)
            yield [number - top for number in numbers]
            yield [number // 2 for number in numbers]
            yield [-number // 2 for number in numbers]
        yield [1048576 - 2097152 * (i % 2) for i in range(length)]
        yield [2097152 * (i % 2) - 1048576 for i in range(length)]
        yield [1048576 - 2097152 * (i // 2 % 2) for i in range(length)]
        yield [1048576] * length
        yield [-1048576] * length


def wrong_rows():
    """Rows that halve and whole refuse: of no number, of too many, with a number out of range."""
    yield []
    for length in (257, 258, 300):
        yield [0] * length
    for value in (-1048577, 1048577, -2147483648, 2147483647):
        yield [value]
        for length in (2, 3, 256):
            for place in (0, 1, length - 1):
                yield [5] * place + [value] + [5] * (length - 1 - place)


# Codes of a sheet of one tile and of a sheet of several, and whether it is of several.
CODES = ((code(1, 2, 2, 4, 1, [10, 12, 14, 20]), False), (code(3, 33, 18, 4, 2, gentle(3, 33, 18)), True))


def wrong_crcs(coded):
    """A code with each of the last four bytes changed, and with all of them."""
    for place in range(len(coded) - 4, len(coded)):
        yield coded[:place] + [coded[place] ^ 1] + coded[place + 1:]
    yield coded[:-4] + [255 - byte for byte in coded[-4:]]
    yield coded[:-4] + coded[-4:][::-1]


def changed(coded, place, value):
    """A byte changed, the CRC-32 made right again."""
    return seal(coded[:place] + [value] + coded[place + 1:-4])


def wrong_lengths(coded, many):
    """A table that doesn't say how long the tiles' codes are; the CRC-32 is right."""
    for start in range(9, 9 + 3 * many, 3):
        length = int.from_bytes(bytes(coded[start:start + 3]), "little")
        for other in (0, length - 1, length + 1, length + 256, length + 65536, 16777215):
            yield (f"{other} for {length} in the table",
                   seal(coded[:start] + list(other.to_bytes(3, "little")) + coded[start + 3:-4]))


def wrong_frames():
    """Why, and bytes that don't begin as a code does, or of which there are too few or too many."""
    yield "no bytes", []
    yield "one byte", [84]
    for coded, several in CODES:
        for place in range(4):
            for value in (0, coded[place] - 1, coded[place] + 1, coded[place] ^ 32, 255):
                yield f"byte {place} is {value}", changed(coded, place, value)
        for place, value in ((4, 0), (4, 5), (4, 255), (7, 3), (7, 0), (7, 9), (7, 255), (8, 6), (8, 255)):
            yield f"byte {place} is {value}", changed(coded, place, value)
        yield from wrong_lengths(coded, 6 if several else 1)
        yield "a byte too many", coded + [0]
        yield "a byte too many, sealed", seal(coded[:-4] + [0])
        yield "a byte missing", coded[:-1]
        yield "a byte missing, sealed", seal(coded[:-5])
        yield "no CRC", coded[:-4]
        for length in range(9 + 3 * (6 if several else 1) + 4):
            yield f"{length} bytes alone", coded[:length]
            yield f"{length} bytes alone, sealed", seal(coded[:length])
    yield "a length of 0 and no byte", frame(1, 1, 1, 4, 0, [[]])
    yield "a length of 0 and no byte for the second tile", frame(1, 17, 1, 4, 0, [[1, 0], []])
    yield "a length of 0 and no byte for the first tile", frame(1, 17, 1, 4, 0, [[], [1, 0]])
    for many in range(256):
        yield f"a table of {many} for 256 tiles", seal([84, 73, 76, 83, 1, 255, 255, 4, 0] + [1, 0, 0] * many)


def loose_frames():
    """Bytes that begin as a code does, but are none: wrong CRCs, and tiles' bytes that are no code."""
    for coded, _ in CODES:
        yield from wrong_crcs(coded)
        for place in range(9 + 3 * 6 if coded[5] == 32 else 12, len(coded) - 4, 7):
            yield coded[:place] + [coded[place] ^ 255] + coded[place + 1:]
    for kinds in (1, 2, 3, 4):
        for told in ([[0], [1]], [[2], [255, 255]], [[7] * 300, [0, 0]], [[0] * 70000, [1, 255]]):
            yield frame(kinds, 17, 9, 4, 5, told)
            yield frame(kinds, 9, 33, 5, 0, told)[:-1] + [9]
