"""The hill rows in the order of texts, in which d stands ahead of u, numbered from 0."""

from hillrows.counts import MOST_UPS, check_ceiling, check_number, hill_table, is_number
from hillrows.errors import NoPlace, NoRank
from hillrows.rows import DOWN, UP, check_hill


def rank(row, ceiling=None):
    """A hill row's number among those of as many ups under a ceiling."""
    check_ceiling(ceiling)
    check_hill(row, ceiling)
    return number_of(row, hill_table(len(row) // 2, ceiling))


def row_at(n, r, ceiling=None):
    """The hill row of n ups that has the number r under a ceiling."""
    check_number(n, MOST_UPS)
    check_ceiling(ceiling)
    table = hill_table(n, ceiling)
    if not is_number(r, row_count(table) - 1):
        raise NoRank("no hill row has this number")
    return row_of_number(r, table)


def sign_at(n, r, place, ceiling=None):
    """The sign at a place, from 0, of the hill row that has the number r."""
    row = row_at(n, r, ceiling)
    if not is_number(place, len(row) - 1):
        raise NoPlace("the row has no sign at this place")
    return row[place]


def next_row(row, ceiling=None):
    """The hill row behind a hill row, or None."""
    return row_beside(row, ceiling, 1)


def ahead_row(row, ceiling=None):
    """The hill row ahead of a hill row, or None."""
    return row_beside(row, ceiling, -1)


def row_beside(row, ceiling, step):
    """The hill row so many numbers behind a hill row, or None where there is none."""
    check_ceiling(ceiling)
    check_hill(row, ceiling)
    table = hill_table(len(row) // 2, ceiling)
    r = number_of(row, table) + step
    if not is_number(r, row_count(table) - 1):
        return None
    return row_of_number(r, table)


def number_of(row, table):
    """How many hill rows stand ahead of this one."""
    r = 0
    height = 0
    left = len(row)
    for sign in row:
        left -= 1
        if sign == UP:
            # The rows that are the same up to here and go down now stand ahead.
            r += ways_down(table, height, left)
            height += 1
        else:
            height -= 1
    return r


def row_of_number(r, table):
    """The hill row ahead of which r others stand."""
    signs = []
    height = 0
    ahead = r
    for left in reversed(range(len(table) - 1)):
        down = ways_down(table, height, left)
        if ahead < down:
            signs.append(DOWN)
            height -= 1
        else:
            ahead -= down
            signs.append(UP)
            height += 1
    return "".join(signs)


def ways_down(table, height, left):
    """How many ways lead on behind a step down from a height, with so many signs left behind it."""
    return table[left][height - 1] if height > 0 else 0


def row_count(table):
    """How many hill rows there are: the ways from 0 with all signs left."""
    return table[-1][0]
