"""What the document says, worked out the long way over all texts that there are, and what the tests share."""

from itertools import groupby, product
from math import comb

CEILINGS = (None, 0, 1, 2, 3, 4, 5, 6, 7, 200)

NO_ROWS = ("x", "U", "D", "u d", "ud ", " ud", "ud\n", "\n", "\r\n", "uxd", "udx", "u1 d1", "-", "()", "~", "0")

# No hill rows, though texts of ups and downs alone.
NO_HILLS = ("u", "d", "du", "uu", "uud", "udd", "uddu", "dudu", "uduudddu", "u" * 200 + "d" * 199,
            "u" * 199 + "d" * 200, "d" * 200 + "u" * 200, "u" * 5000, "ud" * 5000 + "du")

NO_NUMBERS = (True, False, -1, -200, -10 ** 30, "3", "", None)

NO_CEILINGS = (True, False, -1, 201, 10 ** 30, -10 ** 5000, 10 ** 5000, "3")


def all_rows(length):
    """All rows of so many signs, in the order of texts."""
    return ["".join(signs) for signs in product("du", repeat=length)]


def height_at(row, place):
    return row[:place].count("u") - row[:place].count("d")


def stays_between(row, start, ceiling):
    """Whether a row that begins at a height is below 0 and above the ceiling nowhere."""
    found = [start + height_at(row, place) for place in range(len(row) + 1)]
    return min(found) >= 0 and (ceiling is None or max(found) <= ceiling)


def hill_rows(n, ceiling=None):
    """All hill rows of n under a ceiling, in the order of texts."""
    return [row for row in all_rows(2 * n)
            if height_at(row, 2 * n) == 0 and stays_between(row, 0, ceiling)]


def way_count(height, left, ceiling=None):
    return len([row for row in all_rows(left)
                if height + height_at(row, left) == 0 and stays_between(row, height, ceiling)])


def catalan(n):
    return comb(2 * n, n) // (n + 1)


def refusal(work, *told):
    """The class of the error that a work refuses its arguments with; None where it answers."""
    try:
        work(*told)
    except ValueError as error:
        return error.__class__
    return None


def hill_end(row, start):
    """The place behind the down that comes back to the height at the start."""
    return next(k for k in range(start + 1, len(row) + 1) if height_at(row, k) == height_at(row, start))


def hills(row):
    """A hill row's hills, found from the left on."""
    found = []
    start = 0
    while start < len(row):
        end = hill_end(row, start)
        found.append(row[start:end])
        start = end
    return found


def grove(row):
    """A hill row's grove, by going into each hill."""
    return tuple(grove(hill[1:-1]) for hill in hills(row))


def pairs_by_walking(row):
    """For each place the place of the other one of its pair."""
    found = {}
    for place, sign in enumerate(row):
        if sign == "u":
            other = hill_end(row, place) - 1
            found[place] = other
            found[other] = place
    return [found[place] for place in range(len(row))]


def turning(row, k):
    return row[k:] + row[:k]


def turns_that_stay(row):
    """The numbers of all turnings that have no height below 0 but at their end."""
    return [k for k in range(len(row)) if stays_between(turning(row, k)[:-1], 0, None)]


def end_for_end(row):
    return row[::-1].translate(str.maketrans("ud", "du"))


def runs_by_groups(row):
    return " ".join(f"{sign}{len(list(signs))}" for sign, signs in groupby(row)) or "-"


def some_rows(n):
    """Hill rows of n of many forms, told by plain text alone."""
    half = n // 2
    third = n // 3
    rows = ["u" * n + "d" * n, "ud" * n, "u" * half + "ud" * (n - half) + "d" * half,
            "ud" * half + "u" * (n - half) + "d" * (n - half), "u" * half + "d" * half + "ud" * (n - half),
            "u" * third + "uudd" * ((n - third) // 2) + "ud" * ((n - third) % 2) + "d" * third]
    for step in (1, 2, 3, 5):
        rows.append(winding_row(n, step))
    return rows


def winding_row(n, step):
    """A hill row of n that goes up by few and down by few, in turn."""
    row = ""
    many = step
    while row.count("u") < n:
        many = many * 7 % 11 % 6 + 1
        row += "u" * min(many, n - row.count("u"))
        row += "d" * min(many * step % 5, height_at(row, len(row)))
    return row + "d" * height_at(row, len(row))
