"""The turnings of a row with one more down than ups."""

from hillrows.errors import NoTurn
from hillrows.rows import DOWN, UP, heights, is_row


def stays(row):
    """The number of the turning that has no height below 0 but at its end."""
    if not is_row(row) or row.count(DOWN) != row.count(UP) + 1:
        raise NoTurn("no row with one more down than ups")
    found = heights(row)
    # Behind the first lowest place all heights but the last one are as high or higher.
    lowest = found.index(min(found))
    # To turn by all signs is to turn by none.
    return lowest % len(row)
