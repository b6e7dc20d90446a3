"""Hill rows as trees, as pairs of places, and as hills one behind the other."""

from hillrows.counts import is_number
from hillrows.errors import NoPairs, NoRow, NoTree
from hillrows.rows import DOWN, UP, check_hill, heights, is_hill


def folded(row):
    """The grove that a hill row leads to: a tuple of trees, each the grove of what hangs on it."""
    check_hill(row)
    # The grove itself, and on it each tree that is begun and not ended yet.
    begun = [[]]
    for sign in row:
        if sign == UP:
            begun.append([])
        else:
            tree = tuple(begun.pop())
            begun[-1].append(tree)
    return tuple(begun[0])


def unfolded(grove):
    """The hill row that leads to a grove."""
    signs = []
    # A list in the place of calls within calls: a grove may be deeper than these may go.
    waiting = [trees_from_last(grove)]
    while waiting:
        if waiting[-1]:
            tree = waiting[-1].pop()
            waiting.append(trees_from_last(tree))
            signs.append(UP)
        else:
            waiting.pop()
            signs.append(DOWN)
    # The last down ends the grove itself, which no up has begun.
    return "".join(signs[:-1])


def trees_from_last(grove):
    """The list of a grove's trees, the last one first."""
    if not isinstance(grove, tuple):
        raise NoTree("a grove is a tuple of groves")
    return list(reversed(grove))


def pairs(row):
    """The list that has for each place of a hill row the place of the other one of its pair."""
    check_hill(row)
    places = [0] * len(row)
    begun = []
    for place, sign in enumerate(row):
        if sign == UP:
            begun.append(place)
        else:
            other = begun.pop()
            places[place] = other
            places[other] = place
    return places


def row_of_pairs(places):
    """The hill row that a list of pairs is told of."""
    if not is_list_of_places(places):
        raise NoPairs("a list of pairs has a place of its own at each place")
    row = "".join([UP if other > place else DOWN for place, other in enumerate(places)])
    if not is_hill(row) or pairs(row) != places:
        raise NoPairs("no hill row has these pairs")
    return row


def is_list_of_places(places):
    """Whether a value is a list of numbers of places in it."""
    if not isinstance(places, list):
        return False
    last = len(places) - 1
    return all([is_number(place, last) for place in places])


def cut(row):
    """The pair of what is between the first and the last sign of the first hill, and what is behind it."""
    hills = parts(row)
    if not hills:
        raise NoRow("the empty row has no first hill")
    first = hills[0]
    return first[1:-1], row[len(first):]


def parts(row):
    """The list of a hill row's hills."""
    check_hill(row)
    ends = [place for place, height in enumerate(heights(row)) if height == 0]
    return [row[start:end] for start, end in zip(ends, ends[1:])]
