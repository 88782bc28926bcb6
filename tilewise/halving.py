"""Rows and corners halved into means and differences, and made whole again."""


# How many of n places are even, and so how many means a row of n has.
def half(n):
    return (n + 1) // 2


# Behind the end of a row of even length its last even place stands again, as in a mirror.
def right_of_odds(evens, count):
    right = evens[1:]
    if len(right) < count:
        right.append(evens[-1])
    return right


# The first and the last difference stand twice, since the ends have a difference on one side alone.
def lifts(differences):
    before = differences[:1] + differences
    behind = differences + differences[-1:]
    return [(left + right + 2) // 4 for left, right in zip(before, behind)]


def halve_row(row):
    if len(row) < 2:
        return list(row)
    evens = row[0::2]
    odds = row[1::2]
    rights = right_of_odds(evens, len(odds))
    differences = [x - (left + right) // 2 for x, left, right in zip(odds, evens, rights)]
    means = [x + lift for x, lift in zip(evens, lifts(differences))]
    return means + differences


def whole_row(row):
    if len(row) < 2:
        return list(row)
    cut = half(len(row))
    differences = row[cut:]
    evens = [s - lift for s, lift in zip(row[:cut], lifts(differences))]
    rights = right_of_odds(evens, len(differences))
    odds = [d + (left + right) // 2 for d, left, right in zip(differences, evens, rights)]
    whole = list(row)
    whole[0::2] = evens
    whole[1::2] = odds
    return whole


def column_at(rows, i):
    return [row[i] for row in rows]


def turned(rows):
    return [column_at(rows, i) for i in range(len(rows[0]))]


def halve_corner(rows):
    columns = turned([halve_row(row) for row in rows])
    return turned([halve_row(column) for column in columns])


# The quotients are rounded, so the columns have to be undone first: they were halved last.
def whole_corner(rows):
    columns = turned(rows)
    return [whole_row(row) for row in turned([whole_row(column) for column in columns])]
