"""Tests of sameweb.cells: points [5] and [6], and point [1] where it speaks of cells."""

import unittest
from itertools import permutations

from sameweb.cells import first_cells, parted
from sameweb.errors import BadCells
from sameweb.webs import Web, renumbered
from tests.samples import all_ties, all_webs, coloured_webs, path, ring, shifted, sides, some_rows, told, turned_webs
from tests.strange import Angry, AngryInt, AngryList, Liar, check_refused, strange_things


def of_one_colour(size, ties):
    """The web of one colour."""
    return Web([0] * size, ties)


def renumbered_cells(cells, row):
    """The cells renumbered by the row, each again rising."""
    return [sorted(row[point] for point in cell) for cell in cells]


def counts(web, cells, point):
    """How many of the points beside the point are in each cell."""
    return [len([other for other in web.beside(point) if other in cell]) for cell in cells]


def parted_by_the_words(web, cells):
    """The cells parted as point [6] says it, word by word."""
    while True:
        finer = []
        for cell in cells:
            rows = []
            for point in cell:
                if counts(web, cells, point) not in rows:
                    rows.append(counts(web, cells, point))
            for row in sorted(rows):
                finer.append([point for point in cell if counts(web, cells, point) == row])
        if finer == cells:
            return finer
        cells = finer


def all_cells(size):
    """All cells of a web of the size, in each order."""
    def groups(points):
        if not points:
            return [[]]
        found = []
        for rest in groups(points[1:]):
            found.append([[points[0]]] + rest)
            for at, group in enumerate(rest):
                found.append(rest[:at] + [[points[0]] + group] + rest[at + 1:])
        return found
    return [list(order) for cells in groups(list(range(size))) for order in permutations(cells)]


class FirstCells(unittest.TestCase):

    def check(self, expected, colours, ties=()):
        self.assertEqual(expected, first_cells(Web(colours, list(ties))))

    def test_one_point(self):
        for colour in range(10):
            self.check([[0]], [colour])

    def test_one_colour(self):
        self.check([[0, 1]], [0, 0])
        self.check([[0, 1, 2, 3]], [7, 7, 7, 7])
        self.check([list(range(12))], [9] * 12)

    def test_colours_not_in_order(self):
        self.check([[1], [0]], [1, 0])
        self.check([[2], [1], [0]], [2, 1, 0])
        self.check([[1, 3], [2, 4], [0]], [2, 0, 1, 0, 1])

    def test_no_cell_of_a_colour_that_no_point_has(self):
        self.check([[1], [0]], [9, 0])
        self.check([[3], [0, 2], [1, 4]], [5, 8, 5, 2, 8])
        self.check([[1, 3], [0, 2]], [9, 7, 9, 7])

    def test_each_cell_rises(self):
        self.check([[1, 4, 6, 10], [0, 3, 5, 11], [2, 7, 8, 9]], [3, 1, 4, 3, 1, 3, 1, 4, 4, 4, 1, 3])

    def test_twelve_points_of_ten_colours(self):
        self.check([[9, 11], [8, 10], [7], [6], [5], [4], [3], [2], [1], [0]], [9, 8, 7, 6, 5, 4, 3, 2, 1, 0, 1, 0])

    def test_ties_are_nothing_to_it(self):
        for ties in ([], [(0, 1)], path(4), all_ties(4)):
            self.check([[2], [0, 1, 3]], [4, 4, 1, 4], ties)

    def test_it_is_a_list_of_lists_of_whole_numbers(self):
        cells = first_cells(Web([1, 0, 1], []))
        self.assertIs(list, cells.__class__)
        self.assertEqual([list, list], [cell.__class__ for cell in cells])
        self.assertEqual([int] * 3, [point.__class__ for cell in cells for point in cell])

    def test_they_are_cells(self):
        for web in list(turned_webs(6).values()) + list(coloured_webs(6).values()):
            parted(web, first_cells(web))

    def test_by_name(self):
        self.assertEqual([[0]], first_cells(web=Web([0], [])))


class Parted(unittest.TestCase):

    def check(self, expected, web, cells):
        self.assertEqual(expected, parted(web, cells))

    def test_one_point(self):
        self.check([[0]], Web([5], []), [[0]])

    def test_paths_of_one_colour(self):
        self.check([[0, 1]], of_one_colour(2, path(2)), [[0, 1]])
        self.check([[0, 2], [1]], of_one_colour(3, path(3)), [[0, 1, 2]])
        self.check([[0, 3], [1, 2]], of_one_colour(4, path(4)), [[0, 1, 2, 3]])
        self.check([[0, 4], [2], [1, 3]], of_one_colour(5, path(5)), [[0, 1, 2, 3, 4]])

    def test_more_than_one_round(self):
        # By rounds: 0 6 | 1 2 3 4 5, then 0 6 | 2 3 4 | 1 5, then 0 6 | 2 4 | 3 | 1 5.
        self.check([[0, 6], [2, 4], [3], [1, 5]], of_one_colour(7, path(7)), [list(range(7))])
        # By rounds: 0 | 11 | 2 to 10 | 1, then in the place of 2 to 10: 2 | 3 to 9 | 10, then in that of 3 to 9:
        # 9 | 4 to 8 | 3, then in that of 4 to 8: 4 | 5 6 7 | 8, then in that of 5 6 7: 7 | 6 | 5.
        expected = [[0], [11], [2], [9], [4], [7], [6], [5], [8], [3], [10], [1]]
        self.check(expected, of_one_colour(12, path(12)), [[0], list(range(1, 12))])

    def test_a_round_that_parts_no_cell(self):
        for size in range(3, 13):
            self.check([list(range(size))], of_one_colour(size, ring(size)), [list(range(size))])
            self.check([list(range(size))], of_one_colour(size, all_ties(size)), [list(range(size))])
            self.check([list(range(size))], of_one_colour(size, []), [list(range(size))])
        self.check([list(range(6))], of_one_colour(6, ring(3) + shifted(ring(3), 3)), [list(range(6))])
        self.check([[3, 4, 5], [0, 1, 2]], of_one_colour(6, sides(3, 3)), [[3, 4, 5], [0, 1, 2]])
        self.check([[2], [0], [1]], of_one_colour(3, path(3)), [[2], [0], [1]])

    def test_the_lesser_number_of_points_beside_is_first(self):
        self.check([[2], [0, 1]], of_one_colour(3, [(0, 1)]), [[0, 1, 2]])
        self.check([[1, 2, 3], [0]], of_one_colour(4, sides(1, 3)), [[0, 1, 2, 3]])
        # From 0 to 11 points beside: 10 is no text that stands between 1 and 2.
        ties = [(0, other) for other in range(2, 12)] + [(1, 2), (1, 3)]
        self.check([[4, 5, 6, 7, 8, 9, 10, 11], [2, 3], [1], [0]], of_one_colour(12, ties), [list(range(12))])

    def test_the_first_count_that_differs_tells_the_order(self):
        # The rows of 2, 3 and 4 are (0, 1), (1, 0) and (1, 1) in the cells before them.
        ties = [(1, 2), (0, 3), (0, 4), (1, 4)]
        self.check([[0], [1], [2], [3], [4]], of_one_colour(5, ties), [[0], [1], [2, 3, 4]])
        self.check([[1], [0], [3], [2], [4]], of_one_colour(5, ties), [[1], [0], [2, 3, 4]])

    def test_the_order_of_the_cells_is_that_of_the_counts(self):
        for colours in ([0] * 4, [1, 0, 2, 2], [3, 2, 1, 0]):
            web = Web(colours, [(0, 2), (1, 3)])
            self.check([[0], [1], [3], [2]], web, [[0], [1], [2, 3]])
            self.check([[1], [0], [2], [3]], web, [[1], [0], [2, 3]])

    def test_the_parts_stand_in_the_place_of_the_cell(self):
        web = of_one_colour(6, [(0, 3), (1, 3), (1, 4)])
        self.check([[5], [2], [0], [1], [4], [3]], web, [[5], [0, 1, 2], [3, 4]])
        self.check([[4], [3], [2], [0], [1], [5]], web, [[3, 4], [0, 1, 2], [5]])

    def test_all_by_the_cells_that_were_there_when_the_round_began(self):
        # Were the second cell parted by the parts of the first one, 4 would come before 3.
        web = of_one_colour(5, [(1, 2), (0, 3), (1, 4), (2, 4)])
        self.check([[0], [1, 2], [3], [4]], web, [[0, 1, 2], [3, 4]])
        # The same the other way round: were the cells parted from the last one on.
        web = of_one_colour(5, [(3, 4), (1, 3), (1, 4), (0, 2)])
        self.check([[0], [1], [2], [3, 4]], web, [[0, 1], [2, 3, 4]])

    def test_cells_in_another_order_than_by_colours(self):
        web = Web([0, 1, 0, 1], path(4))
        self.check([[0], [2], [3], [1]], web, [[0, 2], [1, 3]])
        self.check([[3], [1], [0], [2]], web, [[1, 3], [0, 2]])
        self.check([[1], [3], [2], [0]], Web([0, 1, 0, 1], [(0, 1), (1, 2), (0, 3)]), [[1], [3], [0, 2]])

    def test_cells_that_differ_from_those_by_colours(self):
        self.check([[0, 2], [1]], Web([0, 1, 2], path(3)), [[0, 1, 2]])
        self.check([[0, 1, 2, 3]], Web([0, 1, 2, 3], ring(4)), [[0, 1, 2, 3]])
        self.check([[2], [0], [1]], of_one_colour(3, path(3)), [[2], [0, 1]])
        self.check([[0], [1], [2]], of_one_colour(3, path(3)), [[0, 1], [2]])
        self.check([[2], [1], [0]], of_one_colour(3, path(3)), [[1, 2], [0]])
        self.check([[1], [0, 2]], of_one_colour(3, path(3)), [[1], [0, 2]])
        self.check([[3], [1], [0, 2]], of_one_colour(4, ring(4)), [[3], [0, 1, 2]])
        self.check([[0, 2], [1], [3]], of_one_colour(4, ring(4)), [[0, 1, 2], [3]])

    def test_ring_with_one_point_of_its_own(self):
        # By rounds: 0 | 2 3 4 | 1 5, then 0 | 2 4 | 3 | 1 5.
        self.check([[0], [2, 4], [3], [1, 5]], of_one_colour(6, ring(6)), [[0], [1, 2, 3, 4, 5]])
        # By rounds: 4 | 0 1 2 | 3 5, then 4 | 0 2 | 1 | 3 5.
        self.check([[4], [0, 2], [1], [3, 5]], of_one_colour(6, ring(6)), [[4], [0, 1, 2, 3, 5]])

    def test_against_the_words_of_the_document(self):
        for size in (1, 2, 3, 4):
            for web in all_webs(size, (0,)):
                for cells in all_cells(size):
                    self.check(parted_by_the_words(web, cells), web, cells)
        for size in (6, 9, 12):
            for web in list(turned_webs(size).values()) + list(coloured_webs(size).values()):
                half = [list(range(0, size, 2)), list(range(1, size, 2))]
                for cells in (first_cells(web), [list(range(size))], [[size - 1], list(range(size - 1))], half):
                    self.check(parted_by_the_words(web, cells), web, cells)

    def test_at_the_end_the_points_of_a_cell_have_like_counts(self):
        for size in (6, 7, 12):
            for web in list(turned_webs(size).values()) + list(coloured_webs(size).values()):
                cells = parted(web, first_cells(web))
                self.assertEqual(list(range(size)), sorted(point for cell in cells for point in cell))
                for cell in cells:
                    self.assertEqual(sorted(cell), cell)
                    for point in cell:
                        self.assertEqual(counts(web, cells, cell[0]), counts(web, cells, point))
                self.assertEqual(cells, parted(web, cells))

    def test_of_a_web_renumbered_they_are_the_cells_renumbered(self):
        for size in (2, 3, 4):
            for web in all_webs(size, (0,)):
                for cells in all_cells(size):
                    end = parted(web, cells)
                    for row in permutations(range(size)):
                        other = renumbered(web, list(row))
                        self.check(renumbered_cells(end, row), other, renumbered_cells(cells, row))
        for size in (6, 9, 12):
            for web in list(turned_webs(size).values()) + list(coloured_webs(size).values()):
                for cells in (first_cells(web), [[3], [0, 1, 2] + list(range(4, size))]):
                    end = parted(web, cells)
                    for row in some_rows(size):
                        other = renumbered(web, row)
                        self.check(renumbered_cells(end, row), other, renumbered_cells(cells, row))

    def test_it_is_a_list_of_lists_of_whole_numbers(self):
        cells = parted(of_one_colour(3, path(3)), [[0, 1, 2]])
        self.assertIs(list, cells.__class__)
        self.assertEqual([list, list], [cell.__class__ for cell in cells])
        self.assertEqual([int] * 3, [point.__class__ for cell in cells for point in cell])

    def test_by_name(self):
        self.assertEqual([[0]], parted(web=Web([0], []), cells=[[0]]))


class Refused(unittest.TestCase):

    def refuse(self, cells, size=3):
        for ties in ([], path(size), all_ties(size)):
            with self.subTest(ties=ties):
                check_refused(self, BadCells, lambda: parted(of_one_colour(size, ties), cells))

    def test_no_list(self):
        for thing in (None, True, False, 0, 3, 1.5, "", "012", b"\x00\x01\x02", (), ([0, 1, 2],), ((0, 1, 2),), {},
                      {0: [0, 1, 2]}, set(), {0, 1, 2}, range(3), iter([[0, 1, 2]]), object(), list):
            self.refuse(thing)

    def test_a_cell_that_is_no_list(self):
        for thing in (None, True, 1, 1.0, "1", "", b"\x01", (1,), (), {1}, {1: 1}, {}, range(1, 2), iter([1])):
            self.refuse([[0, 2], thing])
            self.refuse([thing, [0, 2]])
            self.refuse([[0, 1, 2], thing])
            self.refuse([thing, [0, 1, 2]])
        self.refuse([0, 1, 2])
        self.refuse([(0, 1, 2)])

    def test_a_point_that_is_none(self):
        for thing in (-1, -3, 3, 4, 12, 10 ** 30, True, False, "1", "", None, [1], (1,), [], {}, 1.0, 1.5, b"\x01"):
            self.refuse([[0, thing, 2]])
            self.refuse([[0, 1, thing]])
            self.refuse([[thing, 1, 2]])
            self.refuse([[0], [thing], [2]])
            self.refuse([[0, 1, 2], [thing]])
            self.refuse([[0, 1, 2, thing]])
        self.refuse([[False, True, 2]])
        self.refuse([[True]], 1)
        self.refuse([[False]], 1)
        self.refuse([[1]], 1)
        self.refuse([[1, 2, 3]])
        self.refuse([list(range(1, 13))], 12)

    def test_an_empty_cell(self):
        self.refuse([[0, 1, 2], []])
        self.refuse([[], [0, 1, 2]])
        self.refuse([[0], [], [1, 2]])
        self.refuse([[]], 1)
        self.refuse([[0], []], 1)

    def test_empty_cells(self):
        for size in (1, 2, 3, 12):
            self.refuse([], size)
            self.refuse([[]], size)

    def test_a_cell_that_does_not_rise(self):
        self.refuse([[1, 0, 2]])
        self.refuse([[0, 2, 1]])
        self.refuse([[2, 1, 0]])
        self.refuse([[0], [2, 1]])
        self.refuse([[2, 1], [0]])
        self.refuse([[0, 1, 2, 3, 4, 5, 6, 7, 8, 9, 11, 10]], 12)

    def test_a_cell_with_a_point_twice(self):
        self.refuse([[0, 1, 1, 2]])
        self.refuse([[0, 0, 1, 2]])
        self.refuse([[0], [1, 1], [2]])
        self.refuse([[0, 1, 1]])
        self.refuse([[0, 0]], 1)

    def test_a_point_in_two_cells(self):
        self.refuse([[0, 1], [1, 2]])
        self.refuse([[0, 1, 2], [2]])
        self.refuse([[0, 1, 2], [0, 1, 2]])
        self.refuse([[0], [0]], 1)
        cell = [0, 1]
        self.refuse([cell, cell], 2)

    def test_a_point_left_out(self):
        self.refuse([[0, 1]])
        self.refuse([[1, 2]])
        self.refuse([[0], [2]])
        self.refuse([list(range(11))], 12)

    def test_one_cell_too_many(self):
        self.refuse([[0], [1], [2], [3]])
        self.refuse([[0, 1, 2], [3]])
        self.refuse([[0], [1], [2], [2]])
        self.refuse([[k] for k in range(13)], 12)
        self.refuse([list(range(12)), [12]], 12)

    def test_cells_of_a_web_of_another_size(self):
        for size in (1, 2, 4, 12):
            self.refuse([list(range(size))])
            self.refuse([[0, 1, 2]], size)

    def test_a_point_left_out_and_another_one_twice(self):
        self.refuse([[0, 1], [1]])
        self.refuse([[0], [0], [2]])

    def test_things_of_any_kind(self):
        for at, thing in enumerate(strange_things()):
            with self.subTest(at=at):
                self.refuse(thing, 1)
                self.refuse([thing], 1)
                self.refuse([[thing]], 1)
                self.refuse([[0], thing], 1)
                self.refuse([[0, thing]], 2)
                self.refuse([[thing, 1]], 2)
                self.refuse([thing, [0, 1]], 2)
                self.refuse([[thing], [1]], 2)

    def test_things_that_fail_when_they_are_asked(self):
        for cells in (AngryList([[0]]), [AngryList([0])], [[AngryInt(0)]], [Angry()], [[Angry()]], Liar(list),
                      [Liar(list)], [[Liar(int)]]):
            self.refuse(cells, 1)

    def test_cells_within_themselves(self):
        cells = [[0]]
        cells.append(cells)
        self.refuse(cells, 1)
        cell = [0]
        cell.append(cell)
        self.refuse([cell], 2)


class OwnLists(unittest.TestCase):

    def setUp(self):
        self.web = Web([0] * 5, path(5))
        self.end = [[0, 4], [2], [1, 3]]

    def test_the_cells_handed_in_stay_as_they_were(self):
        for web, cells in ((self.web, [[0, 1, 2, 3, 4]]), (self.web, [[3], [0, 1, 2, 4]]), (self.web, self.end),
                           (Web([0] * 3, []), [[0, 1, 2]]), (Web([0], []), [[0]])):
            lists = list(cells)
            before = [list(cell) for cell in cells]
            parted(web, cells)
            self.assertEqual(before, cells)
            self.assertTrue(all(one is other for one, other in zip(lists, cells)))

    def test_what_is_refused_stays_as_it_was(self):
        for cells in ([[1, 0], [2, 3, 4]], [[0, 1, 2, 3]], [[4, 3], [], [None]]):
            before = [list(cell) for cell in cells]
            check_refused(self, BadCells, lambda: parted(self.web, cells))
            self.assertEqual(before, cells)

    def test_the_web_stays_as_it_was(self):
        before = told(self.web)
        parted(self.web, first_cells(self.web))
        check_refused(self, BadCells, lambda: parted(self.web, [[0]]))
        self.assertEqual(before, told(self.web))
        self.assertEqual(5, self.web.size)

    def test_the_cells_handed_in_may_be_changed(self):
        for cells in ([[0, 1, 2, 3, 4]], [[0, 4], [2], [1, 3]]):
            end = parted(self.web, cells)
            for cell in cells:
                cell.append(7)
            cells.clear()
            self.assertEqual(self.end, end)
            self.assertEqual(self.end, parted(self.web, [[0, 1, 2, 3, 4]]))

    def test_what_is_told_may_be_changed(self):
        web = Web([1, 0, 1], [])
        settled = [[0], [1, 2]]
        for ask in (lambda: first_cells(web), lambda: parted(web, [[1], [0, 2]]), lambda: parted(web, settled),
                    lambda: parted(self.web, [[0, 1, 2, 3, 4]])):
            before = [list(cell) for cell in ask()]
            mine = ask()
            for cell in mine:
                cell.append(9)
            mine.reverse()
            mine.append([8])
            self.assertEqual(before, ask())
        self.assertEqual([[0], [1, 2]], settled)

    def test_what_is_told_is_not_what_was_handed_in(self):
        for cells in ([[0, 4], [2], [1, 3]], [[0, 1, 2, 3, 4]]):
            end = parted(self.web, cells)
            self.assertIsNot(cells, end)
            self.assertFalse(any(one is other for one in cells for other in end))

    def test_asked_again_it_is_told_again_the_same(self):
        for web in turned_webs(8).values():
            first, end = first_cells(web), parted(web, first_cells(web))
            parted(self.web, first_cells(self.web))
            self.assertEqual((first, end), (first_cells(web), parted(web, first_cells(web))))

    def test_ties_handed_in_in_another_order(self):
        for order in permutations(path(5)):
            self.assertEqual(self.end, parted(Web([0] * 5, list(order)), [[0, 1, 2, 3, 4]]))
        web = Web([2, 0, 1, 0], path(4)[::-1])
        self.assertEqual([[1, 3], [2], [0]], first_cells(web))


if __name__ == "__main__":
    unittest.main()
