"""The whole document once more: a test for each of its points; each says which one it holds."""

import unittest
from itertools import permutations

from sameweb.cells import first_cells, parted
from sameweb.errors import BadCells, BadRow, BadWeb, NoPoint, NoTurn, NoWeb, WebError
from sameweb.notes import read, shown
from sameweb.rows import back, behind, is_row
from sameweb.shelves import Shelf
from sameweb.tellings import brought
from sameweb.turns import alike, floors, many_turns, steps_of
from sameweb.ways import leading
from sameweb.webs import Web, is_same, renumbered
from tests.samples import in_time, path, ring, rings, sides, told
from tests.strange import check_refused, strange_things

COLOURS = [0, 1, 0, 0, 1, 0]
TIES = [(3, 4), (1, 2), (0, 1), (4, 5)]
ROW = [3, 4, 5, 0, 1, 2]
CELLS = [[0, 1, 2], [3, 4, 5]]


def all_that_is_told(colours, ties, row, cells):
    """All that the program tells of a web, each time asked anew; webs are told by their colours and ties."""
    web = Web(colours, ties)
    shelf = Shelf()
    shelf.put(web)
    shelf.put(renumbered(web, behind(row, [1, 2, 3, 4, 5, 0])))
    brought_row, telling = brought(web)
    return [
        web.colours(), web.ties(), [web.beside(point) for point in range(web.size)],
        back(row), behind(row, row), told(renumbered(web, row)), first_cells(web), parted(web, cells),
        leading(web, web), brought_row, told(telling), floors(web), steps_of(web, row), alike(web),
        told(read(shown(web))), shelf.way(0, 1), shelf.kinds(),
    ]


def spoil(thing):
    """Changes all lists in the thing, through and through."""
    if isinstance(thing, (list, tuple)):
        for part in thing:
            spoil(part)
    if isinstance(thing, list):
        thing.reverse()
        thing.append("spoilt")


def refusals():
    """Each call for which a refusal is told, with that refusal."""
    web = Web(COLOURS, TIES)
    shelf = Shelf()
    shelf.put(web)
    return [
        (BadWeb, lambda thing: Web(thing, [])),
        (BadWeb, lambda thing: Web([0, 0], thing)),
        (BadWeb, lambda thing: read(thing)),
        (NoPoint, web.beside),
        (BadRow, back),
        (BadRow, lambda thing: behind(thing, [0])),
        (BadRow, lambda thing: behind([0], thing)),
        (BadRow, lambda thing: renumbered(web, thing)),
        (BadRow, lambda thing: steps_of(web, thing)),
        (BadCells, lambda thing: parted(web, thing)),
        (NoWeb, shelf.drop),
        (NoWeb, shelf.kind),
        (NoWeb, lambda thing: shelf.way(thing, 0)),
        (NoWeb, lambda thing: shelf.way(0, thing)),
    ]


class Document(unittest.TestCase):

    def test_point_1_what_is_handed_in_is_not_changed(self):
        handed_in = list(COLOURS), list(TIES), list(ROW), [list(cell) for cell in CELLS]
        all_that_is_told(*handed_in)
        self.assertEqual((COLOURS, TIES, ROW, CELLS), handed_in)

    def test_point_1_what_was_handed_in_may_be_changed(self):
        colours, ties, row, cells = list(COLOURS), list(TIES), list(ROW), [list(cell) for cell in CELLS]
        before = all_that_is_told(COLOURS, TIES, ROW, CELLS)
        answers = all_that_is_told(colours, ties, row, cells)
        spoil([colours, ties, row, cells])
        self.assertEqual(before, answers)
        self.assertEqual(before, all_that_is_told(COLOURS, TIES, ROW, CELLS))

    def test_point_1_what_is_told_may_be_changed(self):
        before = all_that_is_told(COLOURS, TIES, ROW, CELLS)
        spoil(all_that_is_told(COLOURS, TIES, ROW, CELLS))
        self.assertEqual(before, all_that_is_told(COLOURS, TIES, ROW, CELLS))

    def test_point_1_each_list_that_is_told_is_one_of_its_own(self):
        def lists(thing):
            if not isinstance(thing, (list, tuple)):
                return []
            return [id(thing)] * isinstance(thing, list) + [at for part in thing for at in lists(part)]
        answers = [all_that_is_told(COLOURS, TIES, ROW, CELLS) for _ in range(2)]
        self.assertEqual(len(lists(answers)), len(set(lists(answers))))

    def test_point_1_told_again_the_same_with_ties_in_any_order(self):
        before = all_that_is_told(COLOURS, TIES, ROW, CELLS)
        for ties in permutations(TIES):
            all_that_is_told([0] * 6, ring(6), [1, 2, 3, 4, 5, 0], [[5], [0, 1, 2, 3, 4]])
            self.assertEqual(before, all_that_is_told(COLOURS, list(ties), ROW, CELLS))

    def test_point_1_whatever_is_handed_in_where_a_refusal_is_told_is_refused_so(self):
        for at, (refusal, call) in enumerate(refusals()):
            for at_thing, thing in enumerate(strange_things()):
                with self.subTest(call=at, thing=at_thing):
                    check_refused(self, refusal, lambda: call(thing))

    def test_point_1_true_and_false_are_no_whole_numbers(self):
        for thing in (True, False):
            self.assertFalse(is_row([thing], 1))
            check_refused(self, BadWeb, lambda: Web([thing], []))
            check_refused(self, BadWeb, lambda: Web([0, 0], [(thing, 1)]))
            check_refused(self, BadCells, lambda: parted(Web([0, 0], []), [[thing], [1 - thing]]))
            for refusal, call in refusals():
                check_refused(self, refusal, lambda: call(thing))

    def test_point_2_webs(self):
        web = Web([0, 0, 1], [(1, 2), (0, 1)])
        self.assertEqual((3, [0, 0, 1], [(0, 1), (1, 2)]), (web.size, web.colours(), web.ties()))
        self.assertEqual([[1], [0, 2], [1]], [web.beside(point) for point in range(3)])
        for colours, ties in (([], []), ([0] * 13, []), ([10], []), ([-1], []), ([0, 0], [(1, 0)]), ([0], [(0, 0)]),
                              ([0, 0], [(0, 1), (0, 1)]), ([0, 0], [(0, 2)]), ([0, 0], [[0, 1]])):
            check_refused(self, BadWeb, lambda: Web(colours, ties))

    def test_point_3_rows(self):
        self.assertEqual([True, False, False], [is_row(row, 3) for row in ([2, 0, 1], [2, 0, 2], [0, 1])])
        web = renumbered(Web([4, 5, 6], [(0, 1)]), [2, 0, 1])
        self.assertEqual(([5, 6, 4], [(0, 2)]), (web.colours(), web.ties()))
        self.assertEqual(([2, 1, 0], [1, 2, 0]), (behind([2, 0, 1], [1, 0, 2]), back([2, 0, 1])))
        for row in ([0, 1], [0, 1, 1], [0, 1, 2, 3]):
            check_refused(self, BadRow, lambda: renumbered(web, row))

    def test_point_4_ways(self):
        one, other = Web([0, 1, 2], [(0, 1)]), Web([1, 2, 0], [(0, 2)])
        self.assertEqual([2, 0, 1], leading(one, other))
        self.assertIsNone(leading(one, Web([1, 2, 0], [(0, 1)])))
        self.assertIsNone(leading(Web([0] * 6, ring(6)), Web([0] * 6, rings(3, 3))))

    def test_point_5_cells(self):
        web = Web([9, 0, 9, 4], [])
        self.assertEqual([[1], [3], [0, 2]], first_cells(web))
        for cells in ([[0, 1, 2]], [[0, 1, 2, 3], []], [[1, 0], [2, 3]], [[0, 1], [1, 2, 3]], [[0, 1, 2, 3, 4]]):
            check_refused(self, BadCells, lambda: parted(web, cells))

    def test_point_6_cells_parted(self):
        self.assertEqual([[0, 4], [2], [1, 3]], parted(Web([0] * 5, path(5)), [[0, 1, 2, 3, 4]]))
        self.assertEqual([[0, 6], [2, 4], [3], [1, 5]], parted(Web([0] * 7, path(7)), [list(range(7))]))

    def test_point_7_tellings(self):
        web = Web(COLOURS, TIES)
        row, telling = brought(web)
        self.assertTrue(is_same(renumbered(web, row), telling))
        for other_row in permutations(range(6)):
            self.assertTrue(is_same(telling, brought(renumbered(web, list(other_row)))[1]))
        self.assertFalse(is_same(telling, brought(Web([0] * 6, TIES))[1]))

    def test_point_8_floors(self):
        self.assertEqual([[(0, [0, 1]), (1, [1, 0])], [(1, [0, 1])]], floors(Web([0, 0], [])))
        expected = [[(0, [0, 1, 2]), (2, [2, 1, 0])], [(1, [0, 1, 2])], [(2, [0, 1, 2])]]
        self.assertEqual(expected, floors(Web([0] * 3, path(3))))

    def test_point_9_steps(self):
        web = Web([0] * 4, ring(4))
        made = []
        for (_, one) in floors(web)[0]:
            for (_, other) in floors(web)[1]:
                made.append(behind(other, one))
                self.assertEqual([one, other, [0, 1, 2, 3], [0, 1, 2, 3]], steps_of(web, made[-1]))
        turns = [list(row) for row in permutations(range(4)) if is_same(web, renumbered(web, list(row)))]
        self.assertEqual(turns, sorted(made))
        self.assertEqual(8, many_turns(web))
        check_refused(self, NoTurn, lambda: steps_of(web, [1, 0, 2, 3]))
        with in_time(5):
            self.assertEqual((479001600, 1036800), (many_turns(Web([0] * 12, [])), many_turns(Web([0] * 12, sides(6, 6)))))

    def test_point_10_points_turned_to_one_another(self):
        self.assertEqual([[0, 4], [1, 3], [2]], alike(Web([0] * 5, path(5))))
        self.assertEqual([[0, 1, 2], [3, 4, 5, 6]], alike(Web([0] * 7, rings(3, 4))))

    def test_point_11_texts(self):
        self.assertEqual("0 0 1: 0-1 1-2", shown(Web([0, 0, 1], [(1, 2), (0, 1)])))
        self.assertEqual("3:", shown(Web([3], [])))
        for text in ("0 0 1: 0-1 1-2", "3:"):
            self.assertEqual(text, shown(read(text)))
        for text in ("", "3", "3: ", "03:", "10:", "0 0: 1-0", "0 0: 0-1 0-1", "0 0 1: 1-2 0-1", "0 0: 0-01", None):
            check_refused(self, BadWeb, lambda: read(text))

    def test_point_12_shelves(self):
        shelf = Shelf()
        one, other = Web([0, 1, 2], [(0, 1)]), Web([1, 2, 0], [(0, 2)])
        self.assertEqual([0, 1, 2], [shelf.put(web) for web in (one, Web([3], []), other)])
        self.assertEqual([(0, [0, 2]), (1, [1])], shelf.kinds())
        self.assertEqual(([2, 0, 1], None), (shelf.way(0, 2), shelf.way(0, 1)))
        shelf.drop(1)
        check_refused(self, NoWeb, lambda: shelf.kind(1))
        self.assertEqual((3, 2), (shelf.put(Web([3], [])), shelf.kind(3)))

    def test_the_interface_of_refusals(self):
        self.assertEqual((ValueError,), WebError.__bases__)
        for refusal in (BadWeb, BadRow, BadCells, NoPoint, NoTurn, NoWeb):
            self.assertEqual((WebError,), refusal.__bases__)


if __name__ == "__main__":
    unittest.main()
