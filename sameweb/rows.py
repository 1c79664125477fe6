"""Rows: lists that give each number below their size another one, or the same."""

from sameweb.errors import BadRow
from sameweb.whole import is_whole


def is_row(thing, size):
    """Whether the thing is a row of the size."""
    if not is_whole(size) or size < 1:
        return False
    if type(thing) is not list or len(thing) != size:
        return False
    # Only whole numbers can be sorted without fear of what else stands there.
    return all(is_whole(number) for number in thing) and sorted(thing) == list(range(size))


def behind(one, other):
    """The row that does first the one, then the other."""
    size = _size_of(one)
    if not is_row(other, size):
        raise BadRow("the second one is no row of the size of the first one")
    return [other[number] for number in one]


def back(row):
    """The row that undoes the row."""
    undone = [0] * _size_of(row)
    for place, number in enumerate(row):
        undone[number] = place
    return undone


def _size_of(thing):
    """The size of a row; what is none is refused."""
    if type(thing) is not list or not is_row(thing, len(thing)):
        raise BadRow("a row is a list in which each number below its length stands just once")
    return len(thing)
