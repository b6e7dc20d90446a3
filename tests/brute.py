"""What the document says, worked out the long way over all texts that there are."""

from itertools import product
from math import comb

CEILINGS = (None, 0, 1, 2, 3, 4, 5, 6, 7, 200)

NO_ROWS = ("x", "U", "D", "u d", "ud ", " ud", "ud\n", "\n", "\r\n", "uxd", "udx", "u1 d1", "-", "()", "~", "0")

NO_NUMBERS = (True, False, -1, -200, -10 ** 30, "3", "", None)

NO_CEILINGS = (True, False, -1, 201, 10 ** 30, -10 ** 5000, 10 ** 5000, "3")


def all_rows(length):
    """All rows of so many signs, in the order of texts."""
    return ["".join(signs) for signs in product("du", repeat=length)]


def height_at(row, place):
    return row[:place].count("u") - row[:place].count("d")


def stays_between(row, start, ceiling):
    """Whether a row that begins at a height is below 0 and above the ceiling nowhere."""
    found = [start + height_at(row, place) for place in range(len(row) + 1)]
    return min(found) >= 0 and (ceiling is None or max(found) <= ceiling)


def hill_rows(n, ceiling=None):
    """All hill rows of n under a ceiling, in the order of texts."""
    return [row for row in all_rows(2 * n)
            if height_at(row, 2 * n) == 0 and stays_between(row, 0, ceiling)]


def way_count(height, left, ceiling=None):
    return len([row for row in all_rows(left)
                if height + height_at(row, left) == 0 and stays_between(row, height, ceiling)])


def catalan(n):
    return comb(2 * n, n) // (n + 1)
