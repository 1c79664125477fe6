"""Cells: lists of the points of a web, each point in just one of them."""

from sameweb.errors import BadCells
from sameweb.whole import is_below


def first_cells(web):
    """The cells by colours, the lesser colour first."""
    colours = web.colours()
    cells = []
    for colour in sorted(set(colours)):
        cells.append([point for point in range(web.size) if colours[point] == colour])
    return cells


def parted(web, cells):
    """The cells, parted to the end."""
    if not _are_cells(cells, web.size):
        raise BadCells("cells are a list of rising lists, with each point of the web in just one")
    return parted_among(neighbours(web), cells)


def neighbours(web):
    """For each point of the web, the points beside it."""
    return [web.beside(point) for point in range(web.size)]


def parted_among(neighbour_lists, cells):
    """The cells, parted to the end, where the points beside each point are told already."""
    while True:
        finer = _parted_once(neighbour_lists, cells)
        if len(finer) == len(cells):
            return finer
        cells = finer


def _parted_once(neighbour_lists, cells):
    """The cells behind one round, as lists of their own even where none was parted."""
    rows = _rows_of_counts(neighbour_lists, cells)
    finer = []
    for cell in cells:
        for row in sorted({rows[point] for point in cell}):
            finer.append([point for point in cell if rows[point] == row])
    return finer


def _rows_of_counts(neighbour_lists, cells):
    """For each point, how many of the points beside it are in each cell."""
    cell_of = {point: at for at, cell in enumerate(cells) for point in cell}
    rows = []
    for others in neighbour_lists:
        counts = [0] * len(cells)
        for other in others:
            counts[cell_of[other]] += 1
        rows.append(tuple(counts))
    return rows


def _are_cells(thing, size):
    """Whether the thing is cells of a web of the size."""
    if type(thing) is not list or not all(_is_cell(cell, size) for cell in thing):
        return False
    return sorted([point for cell in thing for point in cell]) == list(range(size))


def _is_cell(thing, size):
    """Whether the thing is a list of points of a web of the size, not empty and rising."""
    if type(thing) is not list or len(thing) == 0:
        return False
    # Only points can be sorted without fear of what else stands there.
    return all(is_below(point, size) for point in thing) and sorted(set(thing)) == thing
