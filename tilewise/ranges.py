"""Whether numbers lie in the ranges that the calls ask for."""

from tilewise.refusals import OutOfRange

HIGHEST = 65535
HIGHEST_BYTE = 255
MOST_BYTES = 1048576
LONGEST_ROW = 256
FARTHEST = 1048576


# No number at all is in every range: how many there must be is asked elsewhere.
def all_between(numbers, lowest, highest):
    return min(numbers, default=lowest) >= lowest and max(numbers, default=highest) <= highest


def numbers_in_range(numbers):
    return all_between(numbers, 0, HIGHEST)


def check_bytes(coded):
    if len(coded) > MOST_BYTES or not all_between(coded, 0, HIGHEST_BYTE):
        raise OutOfRange()


def row_fits(row):
    return 1 <= len(row) <= LONGEST_ROW and all_between(row, -FARTHEST, FARTHEST)
