"""Ways: rows that lead from one web to another."""

from sameweb.rows import back, behind
from sameweb.tellings import brought
from sameweb.webs import is_same


def leading(one, other):
    """A row that leads from the one web to the other, or None where there is none."""
    row, telling = brought(one)
    other_row, other_telling = brought(other)
    if not is_same(telling, other_telling):
        return None
    return behind(row, back(other_row))
