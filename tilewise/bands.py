"""One kind of a tile as bands, each a list of its numbers row by row, in the order in which they are told."""

from tilewise.halving import half, halve_corner, whole_corner


def flat(rows):
    numbers = []
    for row in rows:
        numbers.extend(row)
    return numbers


# The height is handed in, since rows without a number can't be counted from the numbers.
def cut_rows(numbers, width, height):
    return [numbers[i * width:(i + 1) * width] for i in range(height)]


# (width, height) of each corner, from the whole tile to the last corner.
def corner_sizes(width, height, levels):
    sizes = [(width, height)]
    for level in range(levels):
        sizes.append((half(sizes[level][0]), half(sizes[level][1])))
    return sizes


# What one halving leaves around the corner of means: right above, left below, right below.
def three_bands(halved, width, height):
    right_above = flat([row[width:] for row in halved[:height]])
    left_below = flat([row[:width] for row in halved[height:]])
    right_below = flat([row[width:] for row in halved[height:]])
    return [right_above, left_below, right_below]


def bands_of(rows, levels):
    corner = rows
    around = []
    for size in corner_sizes(len(rows[0]), len(rows), levels)[1:]:
        halved = halve_corner(corner)
        # A later halving's bands are told ahead of an earlier one's.
        around = three_bands(halved, size[0], size[1]) + around
        corner = [row[:size[0]] for row in halved[:size[1]]]
    return [flat(corner)] + around


def band_lengths(width, height, levels):
    sizes = corner_sizes(width, height, levels)
    lengths = [sizes[levels][0] * sizes[levels][1]]
    for level in range(levels - 1, -1, -1):
        inner = sizes[level + 1]
        right = sizes[level][0] - inner[0]
        below = sizes[level][1] - inner[1]
        lengths.extend([right * inner[1], inner[0] * below, right * below])
    return lengths


# The halved corner again, from its corner of means and the three bands around that.
def joined(corner, around, size):
    inner = len(corner[0])
    right = size[0] - inner
    below = size[1] - len(corner)
    rights_above = cut_rows(around[0], right, len(corner))
    lefts_below = cut_rows(around[1], inner, below)
    rights_below = cut_rows(around[2], right, below)
    above = [left + beside for left, beside in zip(corner, rights_above)]
    return above + [left + beside for left, beside in zip(lefts_below, rights_below)]


def rows_of(bands, width, height, levels):
    sizes = corner_sizes(width, height, levels)
    corner = cut_rows(bands[0], sizes[levels][0], sizes[levels][1])
    for level in range(levels - 1, -1, -1):
        first = 1 + 3 * (levels - 1 - level)
        corner = whole_corner(joined(corner, bands[first:first + 3], sizes[level]))
    return corner
