"""The kinds of a tile, each a list of its numbers, mixed and unmixed."""


def mixed(planes):
    if len(planes) < 3:
        return list(planes)
    points = list(zip(planes[0], planes[1], planes[2]))
    means = [(r + 2 * g + b) // 4 for r, g, b in points]
    blues = [b - g for r, g, b in points]
    reds = [r - g for r, g, b in points]
    return [means, blues, reds] + planes[3:]


def unmixed(planes):
    if len(planes) < 3:
        return list(planes)
    greens = [y - (u + v) // 4 for y, u, v in zip(planes[0], planes[1], planes[2])]
    reds = [v + g for v, g in zip(planes[2], greens)]
    blues = [u + g for u, g in zip(planes[1], greens)]
    return [reds, greens, blues] + planes[3:]
