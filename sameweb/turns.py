"""Turns: rows that lead from a web to itself."""

from sameweb.cells import first_cells, neighbours, parted_among
from sameweb.errors import NoTurn
from sameweb.rows import back, behind
from sameweb.tellings import least_row
from sameweb.webs import is_same, renumbered


def floors(web):
    """For each point, the points to which turns lead it that leave those below it, each with such a turn."""
    turns = []
    from_the_last = []
    for point in range(web.size - 1, -1, -1):
        turns = turns + _new_turns(web, point, turns)
        rows = _ways_from(point, turns, web.size)
        from_the_last.append([(other, rows[other]) for other in sorted(rows)])
    return from_the_last[::-1]


def many_turns(web):
    """How many turns the web has."""
    many = 1
    for floor in floors(web):
        many = many * len(floor)
    return many


def steps_of(web, row):
    """The turns of which a turn is made, one of each floor, that of floor 0 first."""
    # What is no row of the size of the web is refused by renumbered.
    if not is_same(renumbered(web, row), web):
        raise NoTurn("the row does not lead from the web to itself")
    steps = []
    rest = row
    for point, floor in enumerate(floors(web)):
        # All steps of the floors behind leave the point where it is, so this one leads it to its place.
        step = dict(floor)[rest[point]]
        rest = behind(rest, back(step))
        steps.append(step)
    return steps


def alike(web):
    """The points that are turned to one another, as lists."""
    turns = [turn for floor in floors(web) for _, turn in floor]
    lists = []
    for point in range(web.size):
        points = sorted(_ways_from(point, turns, web.size))
        if points[0] == point:
            lists.append(points)
    return lists


def _new_turns(web, point, turns):
    """Turns that leave the points below the point, enough to lead it wherever such a turn can lead it.

    The turns handed in are enough to make each turn that leaves the point, too.
    """
    new = []
    for other in _maybe_alike(web, point):
        # One point of several that are turned to one another stands for all of them.
        if min(_ways_from(other, turns + new, web.size)) == other:
            turn = _turn_to(web, point, other)
            if turn is not None:
                new.append(turn)
    return new


def _maybe_alike(web, point):
    """The points above the point that the cells do not tell from it, those below it singled out."""
    cells = parted_among(neighbours(web), _singles_first(web, list(range(point))))
    return [other for cell in cells if point in cell for other in cell if other != point]


def _turn_to(web, point, other):
    """A turn that leaves the points below the point and leads it to the other one, or None."""
    below = list(range(point))
    row = least_row(web, _singles_first(web, below + [point]))
    other_row = least_row(web, _singles_first(web, below + [other]))
    if not is_same(renumbered(web, row), renumbered(web, other_row)):
        return None
    # Both rows number what is singled out from 0 on, so the one behind the other leads it to its place.
    return behind(row, back(other_row))


def _singles_first(web, points):
    """The first cells, with each of the points in a cell of its own ahead of them."""
    rest = [[point for point in cell if point not in points] for cell in first_cells(web)]
    return [[point] for point in points] + [cell for cell in rest if len(cell) > 0]


def _ways_from(start, turns, size):
    """For each point to which the turns lead the start, one behind the other, a turn that leads it there."""
    rows = {start: list(range(size))}
    waiting = [start]
    while len(waiting) > 0:
        point = waiting.pop()
        for turn in turns:
            if turn[point] not in rows:
                rows[turn[point]] = behind(rows[point], turn)
                waiting.append(turn[point])
    return rows
