"""Rows: their heights, and which of them are hill rows."""

from hillrows.errors import NoRow

UP = "u"
DOWN = "d"


def heights(row):
    """The list of a row's heights at 0, at 1, and so on, to its end."""
    if not is_row(row):
        raise NoRow("a row has no signs but u and d")
    height = 0
    found = [height]
    for sign in row:
        height += 1 if sign == UP else -1
        found.append(height)
    return found


def is_hill(row, ceiling=None):
    """Whether a text is a hill row under a ceiling."""
    if not is_row(row):
        return False
    found = heights(row)
    if found[-1] != 0 or min(found) < 0:
        return False
    return ceiling is None or max(found) <= ceiling


def peak(row):
    """A row's greatest height."""
    return max(heights(row))


def is_row(text):
    """Whether a text has no signs but ups and downs."""
    return isinstance(text, str) and all([sign in (UP, DOWN) for sign in text])


def check_hill(row, ceiling=None):
    """Refuse what is no hill row under a ceiling."""
    if not is_hill(row, ceiling):
        raise NoRow("no hill row, or none under this ceiling")
