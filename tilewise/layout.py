"""Where a sheet's tiles lie, and their numbers taken out of it and laid into it."""


class Place:
    def __init__(self, x, y, width, height):
        self.x = x
        self.y = y
        self.width = width
        self.height = height


def tile_places(wide, high, e):
    side = 1 << e
    places = []
    for y in range(0, high, side):
        for x in range(0, wide, side):
            places.append(Place(x, y, min(side, wide - x), min(side, high - y)))
    return places


# Where the numbers of each row of a tile begin among the sheet's.
def row_starts(place, kinds, wide):
    return [(y * wide + place.x) * kinds for y in range(place.y, place.y + place.height)]


def taken_out(numbers, place, kinds, wide):
    length = place.width * kinds
    taken = []
    for start in row_starts(place, kinds, wide):
        taken.extend(numbers[start:start + length])
    return taken


def lay_in(sheet, place, kinds, wide, numbers):
    length = place.width * kinds
    for i, start in enumerate(row_starts(place, kinds, wide)):
        sheet[start:start + length] = numbers[i * length:(i + 1) * length]
