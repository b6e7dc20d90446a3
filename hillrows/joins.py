"""Hill rows made of hill rows: one behind the other, lifted, turned end for end, and told by ranks."""

from hillrows.counts import MOST_UPS, check_number
from hillrows.ranks import rank, row_at
from hillrows.rows import DOWN, UP, check_hill
from hillrows.trees import cut

MOST_TIMES = 200


def joined(rows):
    """The hill rows of a list, one behind the other."""
    for row in rows:
        check_hill(row)
    return "".join(rows)


def lifted(row, times=1):
    """So many ups, the hill row, so many downs."""
    check_hill(row)
    check_number(times, MOST_TIMES)
    return UP * times + row + DOWN * times


def mirrored(row):
    """A hill row read from its end, each up a down and each down an up."""
    check_hill(row)
    return "".join([DOWN if sign == UP else UP for sign in reversed(row)])


def rank_told(row):
    """A hill row's ups, those between in its first hill, the rank of that, the rank of what is behind."""
    between, behind = cut(row)
    return len(row) // 2, len(between) // 2, rank(between), rank(behind)


def row_told(n, k, i, r):
    """The hill row of which rank_told tells this."""
    check_number(n, MOST_UPS, 1)
    check_number(k, n - 1)
    between = row_at(k, i)
    behind = row_at(n - 1 - k, r)
    return lifted(between) + behind
