"""Where the tiles of a sheet and of a small sheet lie, and their numbers taken out of it and laid into it."""

from tilewise.halving import half


class Place:
    def __init__(self, x, y, width, height):
        self.x = x
        self.y = y
        self.width = width
        self.height = height


def tile_places(wide, high, e):
    side = 1 << e
    places = []
    for y in range(0, high, side):
        for x in range(0, wide, side):
            places.append(Place(x, y, min(side, wide - x), min(side, high - y)))
    return places


def shrunk(n, times):
    for i in range(times):
        n = half(n)
    return n


# Left of a tile and above it there are tiles of the full side alone, so its place is a multiple of that, shrunk.
def small_place(place, e, times):
    side = shrunk(1 << e, times)
    width = shrunk(place.width, times)
    height = shrunk(place.height, times)
    return Place((place.x >> e) * side, (place.y >> e) * side, width, height)


# Where the numbers of each row of a tile begin among the sheet's.
def row_starts(place, kinds, wide):
    return [(y * wide + place.x) * kinds for y in range(place.y, place.y + place.height)]


def taken_out(numbers, place, kinds, wide):
    length = place.width * kinds
    taken = []
    for start in row_starts(place, kinds, wide):
        taken.extend(numbers[start:start + length])
    return taken


def lay_in(sheet, place, kinds, wide, numbers):
    length = place.width * kinds
    for i, start in enumerate(row_starts(place, kinds, wide)):
        sheet[start:start + length] = numbers[i * length:(i + 1) * length]
