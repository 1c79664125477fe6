"""Shelves: webs that are kept by numbers, each of a kind."""

from sameweb.errors import NoWeb
from sameweb.notes import shown
from sameweb.rows import back, behind
from sameweb.tellings import brought
from sameweb.whole import is_whole


class Shelf:
    """A shelf of webs.

    Each is kept as its telling, as a text, and the row that leads to the telling: nothing that
    is done to the web that was handed in reaches the shelf.
    """

    def __init__(self):
        self._kept = {}
        self._kind_of = {}
        self._many_put = 0
        self._many_kinds = 0

    def put(self, web):
        """Puts the web on the shelf; tells its number."""
        row, telling = brought(web)
        text = shown(telling)
        if text not in self._kind_of:
            self._kind_of[text] = self._many_kinds
            self._many_kinds += 1
        number = self._many_put
        self._kept[number] = (text, row)
        self._many_put += 1
        return number

    def drop(self, number):
        """Takes the web of this number off the shelf."""
        text, _ = self._at(number)
        del self._kept[number]
        if text not in [other for other, _ in self._kept.values()]:
            del self._kind_of[text]

    def kind(self, number):
        """The kind of the web of this number."""
        text, _ = self._at(number)
        return self._kind_of[text]

    def kinds(self):
        """Each kind that is there, with the numbers of its webs."""
        numbers_of = {}
        for number, (text, _) in self._kept.items():
            numbers_of.setdefault(self._kind_of[text], []).append(number)
        return [(kind, sorted(numbers_of[kind])) for kind in sorted(numbers_of)]

    def way(self, one, other):
        """A row that leads from the one web to the other, or None where they are of two kinds."""
        text, row = self._at(one)
        other_text, other_row = self._at(other)
        if text != other_text:
            return None
        return behind(row, back(other_row))

    def _at(self, number):
        """What is kept of the web of this number; where no web is there, it is refused."""
        # What is no whole number may not be fit to be looked for, and True would be found as 1.
        if not is_whole(number) or number not in self._kept:
            raise NoWeb("no web on the shelf has this number")
        return self._kept[number]
