"""Webs: points, each of a colour, and ties between them."""

from sameweb.errors import BadRow, BadWeb, NoPoint
from sameweb.rows import back, is_row
from sameweb.whole import is_below

MOST_POINTS = 12
MANY_COLOURS = 10


class Web:
    """A web; its points are the numbers from 0 to its size less 1."""

    def __init__(self, colours, ties):
        if not _are_colours(colours):
            raise BadWeb("the colours are a list of 1 to 12 whole numbers from 0 to 9")
        if not _are_ties(ties, len(colours)):
            raise BadWeb("the ties are a list of tuples of two points, the lesser first, each once")
        self.size = len(colours)
        self._colours = list(colours)
        self._ties = sorted(ties)

    def colours(self):
        """The colours of the points, in order."""
        return list(self._colours)

    def ties(self):
        """The ties, rising."""
        return list(self._ties)

    def beside(self, point):
        """The points beside the point, rising."""
        if not is_below(point, self.size):
            raise NoPoint("the web has no such point")
        return sorted([b if a == point else a for a, b in self._ties if point in (a, b)])


def renumbered(web, row):
    """The web whose point row[k] is the point k of the web."""
    if not is_row(row, web.size):
        raise BadRow("the row is no row of the size of the web")
    colours = web.colours()
    moved = [colours[point] for point in back(row)]
    return Web(moved, [_tie(row[a], row[b]) for a, b in web.ties()])


def is_same(one, other):
    """Whether two webs have the same colours and ties."""
    return one.colours() == other.colours() and one.ties() == other.ties()


def _tie(a, b):
    """The tie of two points, the lesser one first."""
    return (min(a, b), max(a, b))


def _are_colours(thing):
    """Whether the thing is a list of the colours of a web's points."""
    if type(thing) is not list or not 1 <= len(thing) <= MOST_POINTS:
        return False
    return all(is_below(colour, MANY_COLOURS) for colour in thing)


def _are_ties(thing, size):
    """Whether the thing is a list of ties of a web of the size, each once."""
    if type(thing) is not list or not all(_is_tie(tie, size) for tie in thing):
        return False
    return len(set(thing)) == len(thing)


def _is_tie(thing, size):
    """Whether the thing is a tie in a web of the size."""
    if type(thing) is not tuple or len(thing) != 2:
        return False
    a, b = thing
    return is_below(a, size) and is_below(b, size) and a < b
