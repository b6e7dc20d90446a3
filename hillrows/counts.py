"""How many rows lead back to the ground."""

from hillrows.errors import NoCount

MOST_UPS = 200
MOST_HEIGHT = 200
MOST_SIGNS = 400


def counted(n, ceiling=None):
    """How many hill rows of n ups there are under a ceiling."""
    check_number(n, MOST_UPS)
    check_ceiling(ceiling)
    return hill_table(n, ceiling)[2 * n][0]


def ways(height, left, ceiling=None):
    """How many rows of so many signs lead from a height to 0, never below 0 or above the ceiling."""
    check_number(height, MOST_HEIGHT)
    check_number(left, MOST_SIGNS)
    check_ceiling(ceiling)
    top = lower_of(left, ceiling)
    # From a height above the number of signs left no row comes down to 0 either.
    if height > top:
        return 0
    return ways_table(left, top)[left][height]


def hill_table(n, ceiling):
    """The table of ways for the hill rows of n ups: none of them goes above the height n."""
    return ways_table(2 * n, lower_of(n, ceiling))


def ways_table(left, top):
    """For each number of signs from 0 to left a list: the ways to 0 from each height up to the top."""
    table = [[1] + [0] * top]
    for _ in range(left):
        table.append(with_one_more_sign(table[-1]))
    return table


def with_one_more_sign(found):
    """The ways from each height with one sign more than those that are found."""
    # From below the ground and from above the top no way leads on.
    padded = [0] + found + [0]
    return [padded[height] + padded[height + 2] for height in range(len(found))]


def lower_of(height, ceiling):
    """The lower one of a height and a ceiling."""
    return height if ceiling is None else min(height, ceiling)


def is_number(value, most, least=0):
    """Whether a value is a whole number from the least to the most; True and False are none."""
    return isinstance(value, int) and not isinstance(value, bool) and least <= value <= most


def check_number(value, most, least=0):
    """Refuse what is no whole number from the least to the most."""
    # The message leaves the value out: Python writes no number of very many digits.
    if not is_number(value, most, least):
        raise NoCount(f"no whole number from {least} to {most}")


def check_ceiling(ceiling):
    """Refuse what is neither a ceiling nor None."""
    if ceiling is not None:
        check_number(ceiling, MOST_HEIGHT)
