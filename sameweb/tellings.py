"""Tellings: one web to which all webs that are alike are brought."""

from sameweb.cells import first_cells, neighbours, parted_among
from sameweb.rows import back
from sameweb.webs import renumbered


def brought(web):
    """The row and the web to which the web is brought."""
    row = least_row(web, first_cells(web))
    return (row, renumbered(web, row))


def least_row(web, cells):
    """The row to the least web below the cells; to the points of the cells ahead it gives the lesser numbers."""
    search = Search(web)
    search.look_below(parted_among(neighbours(web), cells), [])
    return search.row_to_least()


class Search:
    """A search for the ends of a web.

    Where a cell has several points, each of them in its turn is singled out, and the cells are
    parted again; where each cell has one point, their order is a row: an end. Webs that are
    alike have alike ends, so the least web to which an end leads is the same one for all.
    """

    def __init__(self, web):
        self._web = web
        self._neighbour_lists = neighbours(web)
        self._ends = {}

    def look_below(self, cells, singled):
        """Looks for the ends below; tells how many of the points singled out are to be kept."""
        at = _first_of_several(cells)
        if at is None:
            return self._come_to_end(cells, singled)
        for point in cells[at]:
            finer = parted_among(self._neighbour_lists, _singled_out(cells, at, point))
            kept = self.look_below(finer, singled + [point])
            if kept < len(singled):
                return kept
        return len(singled)

    def row_to_least(self):
        """The row of the end that leads to the least web."""
        row, _ = self._ends[min(self._ends)]
        return row

    def _come_to_end(self, cells, singled):
        """Keeps an end that leads to a new web; tells how many of the points are to be kept."""
        row = back([cell[0] for cell in cells])
        ties = tuple(renumbered(self._web, row).ties())
        if ties not in self._ends:
            self._ends[ties] = (row, singled)
            return len(singled)
        # Some turn leads from the earlier end to this one, and from all that is below the point
        # at which the two ways part to all below the other: no other end is left to find there.
        # Without this a web of 12 points and no ties would have 12! ends.
        _, earlier = self._ends[ties]
        return _many_shared(earlier, singled)


def _first_of_several(cells):
    """The place of the first cell of several points, or None."""
    for at, cell in enumerate(cells):
        if len(cell) > 1:
            return at
    return None


def _singled_out(cells, at, point):
    """The cells, with the point put before the others of the cell at this place."""
    others = [other for other in cells[at] if other != point]
    return cells[:at] + [[point], others] + cells[at + 1:]


def _many_shared(one, other):
    """At how many places, from the first one on, two lists are the same."""
    many = 0
    while one[many] == other[many]:
        many += 1
    return many
