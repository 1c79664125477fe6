"""Tests of sameweb.webs: points [2] and [3], and point [1] where it speaks of webs."""

import unittest
from itertools import combinations, permutations

from sameweb.errors import BadRow, BadWeb, NoPoint
from sameweb.rows import behind
from sameweb.webs import Web, is_same, renumbered
from tests.samples import all_webs
from tests.strange import check_refused, strange_things

MANY = list(range(10)) + [9, 0]
ALL_TIES = list(combinations(range(12), 2))


def told(web):
    """All that a web tells of itself."""
    return web.size, web.colours(), web.ties(), [web.beside(k) for k in range(web.size)]


def small_webs():
    """The webs of up to three points with colours 0 and 1."""
    return [web for size in range(1, 4) for web in all_webs(size, (0, 1))]


class Webs(unittest.TestCase):

    def test_size_1(self):
        self.assertEqual((1, [3], [], [[]]), told(Web([3], [])))

    def test_size_12_without_ties(self):
        self.assertEqual((12, MANY, [], [[]] * 12), told(Web(MANY, [])))

    def test_size_12_with_all_ties(self):
        web = Web(MANY, ALL_TIES)
        self.assertEqual(66, len(web.ties()))
        beside = [[other for other in range(12) if other != k] for k in range(12)]
        self.assertEqual((12, MANY, ALL_TIES, beside), told(web))

    def test_each_colour(self):
        for colour in range(10):
            self.assertEqual([colour], Web([colour], []).colours())

    def test_colours_stay_in_their_order(self):
        self.assertEqual([5, 0, 9, 5], Web([5, 0, 9, 5], []).colours())

    def test_ties_in_any_order_are_told_rising(self):
        rising = [(0, 1), (0, 3), (1, 2), (2, 3)]
        for order in permutations(rising):
            self.assertEqual(rising, Web([0, 0, 0, 0], list(order)).ties())
        self.assertEqual(ALL_TIES, Web(MANY, ALL_TIES[::-1]).ties())

    def test_ties_rise_as_numbers(self):
        web = Web([0] * 12, [(10, 11), (2, 11), (2, 3), (0, 10), (0, 9)])
        self.assertEqual([(0, 9), (0, 10), (2, 3), (2, 11), (10, 11)], web.ties())

    def test_the_points_beside_each_point(self):
        web = Web([0] * 5, [(3, 4), (0, 3), (2, 3), (0, 2)])
        self.assertEqual([[2, 3], [], [0, 3], [0, 2, 4], [3]], [web.beside(k) for k in range(5)])

    def test_beside_rises_as_numbers(self):
        web = Web([0] * 12, [(9, 11), (2, 9), (9, 10), (0, 9)])
        self.assertEqual([0, 2, 10, 11], web.beside(9))

    def test_the_kinds_of_what_is_told(self):
        web = Web([1, 2], [(0, 1)])
        self.assertIs(int, web.size.__class__)
        self.assertIs(list, web.colours().__class__)
        self.assertIs(list, web.ties().__class__)
        self.assertIs(tuple, web.ties()[0].__class__)
        self.assertIs(list, web.beside(0).__class__)

    def test_arguments_by_name(self):
        web = Web(colours=[1, 2], ties=[(0, 1)])
        self.assertEqual([0], web.beside(point=1))


class Refused(unittest.TestCase):

    def refuse_colours(self, colours):
        with self.subTest():
            check_refused(self, BadWeb, lambda: Web(colours, []))

    def refuse_ties(self, ties, size=3):
        with self.subTest():
            check_refused(self, BadWeb, lambda: Web([0] * size, ties))

    def test_no_colours(self):
        self.refuse_colours([])

    def test_too_many_colours(self):
        self.refuse_colours([0] * 13)
        self.refuse_colours([0] * 1000)
        check_refused(self, BadWeb, lambda: Web([0] * 13, ALL_TIES))

    def test_colours_that_are_no_list(self):
        for thing in (None, 0, 1, "0", "00", (0,), (0, 0), {0: 0}, {0}, range(3), b"\x00", True):
            self.refuse_colours(thing)

    def test_no_colour(self):
        for thing in (-1, 10, 11, True, False, "0", "", None, 0.0, 1.5, [0], (0,), {}):
            self.refuse_colours([thing])
            self.refuse_colours([0, thing])
            self.refuse_colours([thing, 0])
            self.refuse_colours([0] * 11 + [thing])

    def test_ties_that_are_no_list(self):
        for thing in (None, 0, "", "01", (), ((0, 1),), {}, {(0, 1): 1}, set(), {(0, 1)}, range(0), b"", False):
            self.refuse_ties(thing)

    def test_a_tie_that_is_no_tuple(self):
        for thing in ([0, 1], None, 0, "01", "0-1", {0: 1}, {0, 1}, range(2), b"\x00\x01", True):
            self.refuse_ties([thing])
            self.refuse_ties([(0, 2), thing])

    def test_a_tie_of_another_number_of_points(self):
        for thing in ((), (0,), (1,), (0, 1, 2), (0, 1, 1), (0, 1, None)):
            self.refuse_ties([thing])
            self.refuse_ties([thing, (0, 1)])

    def test_the_greater_point_first(self):
        self.refuse_ties([(1, 0)])
        self.refuse_ties([(0, 1), (2, 1)])
        self.refuse_ties([(0, 1), (1, 0)])

    def test_a_point_and_itself(self):
        for point in range(3):
            self.refuse_ties([(point, point)])

    def test_a_point_that_is_not_there(self):
        for thing in ((0, 3), (-1, 0), (-2, -1), (3, 4), (2, 3), (0, 12)):
            self.refuse_ties([thing])
        self.refuse_ties([(0, 1)], 1)
        self.refuse_ties([(0, 12)], 12)
        self.refuse_ties([(-1, 11)], 12)

    def test_no_number_in_the_place_of_a_point(self):
        for thing in (True, False, "1", "", None, 1.0, 0.0, [1], (1,), {}):
            self.refuse_ties([(0, thing)])
            self.refuse_ties([(thing, 2)])
            self.refuse_ties([(thing, thing)])

    def test_a_tie_twice(self):
        self.refuse_ties([(0, 1), (0, 1)])
        self.refuse_ties([(0, 1), (1, 2), (0, 1)])
        self.refuse_ties(ALL_TIES + [(10, 11)], 12)
        self.refuse_ties(ALL_TIES + ALL_TIES, 12)

    def test_things_of_any_kind(self):
        for at, thing in enumerate(strange_things()):
            with self.subTest(at=at):
                check_refused(self, BadWeb, lambda: Web(thing, []))
                check_refused(self, BadWeb, lambda: Web([0, thing], []))
                check_refused(self, BadWeb, lambda: Web([0, 0], thing))
                check_refused(self, BadWeb, lambda: Web(thing, thing))
                check_refused(self, BadWeb, lambda: Web([0, 0], [(0, thing)]))
                check_refused(self, BadWeb, lambda: Web([0, 0], [(thing, 1)]))
                check_refused(self, BadWeb, lambda: Web([0, 0], [(0, 1), [thing, 1]]))

    def test_no_point(self):
        for size in (1, 3, 12):
            web = Web([0] * size, [])
            for thing in (-1, size, size + 1, -size, True, False, "0", "", None, [0], [], (0,), 0.0, {}):
                with self.subTest(size=size):
                    check_refused(self, NoPoint, lambda: web.beside(thing))

    def test_no_point_of_any_kind(self):
        web = Web([0, 0], [(0, 1)])
        for at, thing in enumerate(strange_things()):
            with self.subTest(at=at):
                check_refused(self, NoPoint, lambda: web.beside(thing))
        self.assertEqual((2, [0, 0], [(0, 1)], [[1], [0]]), told(web))


class Renumbered(unittest.TestCase):

    def test_by_hand(self):
        web = renumbered(Web([4, 5, 6], [(0, 1)]), [2, 0, 1])
        self.assertEqual((3, [5, 6, 4], [(0, 2)], [[2], [], [0]]), told(web))
        web = renumbered(Web([0, 1, 2, 3], [(0, 1), (1, 2), (1, 3)]), [1, 3, 0, 2])
        self.assertEqual((4, [2, 0, 3, 1], [(0, 3), (1, 3), (2, 3)], [[3], [3], [3], [0, 1, 2]]), told(web))

    def test_size_1(self):
        self.assertEqual(told(Web([7], [])), told(renumbered(Web([7], []), [0])))

    def test_size_12(self):
        web = renumbered(Web(MANY, [(0, 11), (3, 4)]), [11] + list(range(11)))
        self.assertEqual([1, 2, 3, 4, 5, 6, 7, 8, 9, 9, 0, 0], web.colours())
        self.assertEqual([(2, 3), (10, 11)], web.ties())
        self.assertEqual(ALL_TIES, renumbered(Web(MANY, ALL_TIES), [11] + list(range(11))).ties())

    def test_as_the_point_tells_it(self):
        for web in small_webs():
            for row in permutations(range(web.size)):
                other = renumbered(web, list(row))
                for k in range(web.size):
                    self.assertEqual(web.colours()[k], other.colours()[row[k]])
                    self.assertEqual(sorted(row[at] for at in web.beside(k)), other.beside(row[k]))
                self.assertEqual(sorted(other.ties()), other.ties())

    def test_the_row_that_moves_nothing(self):
        for web in small_webs() + [Web(MANY, ALL_TIES[::3])]:
            self.assertEqual(told(web), told(renumbered(web, list(range(web.size)))))

    def test_one_row_behind_another(self):
        web = Web([0, 1, 1, 2], [(0, 1), (1, 2), (1, 3)])
        for one in permutations(range(4)):
            for other in permutations(range(4)):
                one_by_one = renumbered(renumbered(web, list(one)), list(other))
                self.assertEqual(told(one_by_one), told(renumbered(web, behind(list(one), list(other)))))

    def test_it_is_a_web_of_its_own(self):
        web = Web([0, 1], [(0, 1)])
        self.assertIs(Web, renumbered(web, [1, 0]).__class__)
        self.assertIsNot(web, renumbered(web, [0, 1]))

    def test_no_row(self):
        web = Web([0, 1, 2], [(0, 1)])
        bad = [[], [0, 1, 1], [0, 1, 3], [-1, 0, 1], [1, 2, 3], [0, True, 2], [False, 1, 2], [0, 1, None], [0, 1, "2"],
               [0, 1, [2]], [0, 1, 2.0], (0, 1, 2), "012", None, 3, {0: 0, 1: 1, 2: 2}, {0, 1, 2}, range(3), b"012"]
        for at, thing in enumerate(bad):
            with self.subTest(at=at):
                check_refused(self, BadRow, lambda: renumbered(web, thing))

    def test_a_row_of_another_size(self):
        web = Web([0, 1, 2], [(0, 1)])
        for row in ([0], [1, 0], [0, 1, 2, 3], list(range(12))):
            with self.subTest(row=row):
                check_refused(self, BadRow, lambda: renumbered(web, row))
        check_refused(self, BadRow, lambda: renumbered(Web([0], []), [0, 1]))
        check_refused(self, BadRow, lambda: renumbered(Web(MANY, []), list(range(11))))

    def test_things_of_any_kind(self):
        for at, thing in enumerate(strange_things()):
            for web in (Web([0], []), Web([0, 0], [(0, 1)])):
                with self.subTest(at=at, size=web.size):
                    check_refused(self, BadRow, lambda: renumbered(web, thing))


class IsSame(unittest.TestCase):

    def check(self, expected, one, other):
        self.assertIs(expected, is_same(one, other))
        self.assertIs(expected, is_same(other, one))

    def test_handed_in_in_another_order(self):
        ties = [(0, 1), (0, 2), (1, 2), (1, 3)]
        web = Web([0, 1, 2, 1], ties)
        self.check(True, web, web)
        for order in permutations(ties):
            self.check(True, web, Web([0, 1, 2, 1], list(order)))

    def test_one_tie_another(self):
        self.check(False, Web([0] * 3, [(0, 1)]), Web([0] * 3, [(0, 2)]))
        self.check(False, Web([0] * 3, [(0, 1), (0, 2)]), Web([0] * 3, [(0, 1), (1, 2)]))

    def test_one_tie_more(self):
        self.check(False, Web([0] * 3, [(0, 1)]), Web([0] * 3, []))
        self.check(False, Web(MANY, ALL_TIES), Web(MANY, ALL_TIES[:-1]))

    def test_one_colour_another(self):
        self.check(False, Web([0], []), Web([1], []))
        self.check(False, Web([0, 1, 2], [(0, 1)]), Web([0, 1, 3], [(0, 1)]))
        self.check(False, Web([0, 1], []), Web([1, 0], []))

    def test_a_point_more(self):
        self.check(False, Web([0], []), Web([0, 0], []))
        self.check(False, Web([0, 0], [(0, 1)]), Web([0, 0, 0], [(0, 1)]))

    def test_alike_is_not_yet_the_same(self):
        web = Web([0, 0, 0], [(0, 1)])
        self.check(False, web, renumbered(web, [0, 2, 1]))
        self.check(True, web, renumbered(web, [1, 0, 2]))

    def test_small_webs_are_the_same_as_themselves_alone(self):
        for at, one in enumerate(small_webs()):
            for at_other, other in enumerate(small_webs()):
                self.check(at == at_other, one, other)


class OwnLists(unittest.TestCase):

    def setUp(self):
        self.colours = [3, 1, 2]
        self.ties = [(1, 2), (0, 1)]
        self.row = [2, 0, 1]
        self.web = Web(self.colours, self.ties)
        self.before = (3, [3, 1, 2], [(0, 1), (1, 2)], [[1], [0, 2], [1]])

    def test_what_is_handed_in_stays_as_it_was(self):
        told(self.web)
        renumbered(self.web, self.row)
        is_same(self.web, Web(self.colours, self.ties))
        check_refused(self, NoPoint, lambda: self.web.beside(3))
        check_refused(self, BadRow, lambda: renumbered(Web([0], []), self.row))
        check_refused(self, BadWeb, lambda: Web([1, 2], self.ties))
        check_refused(self, BadWeb, lambda: Web(self.row + [10], self.ties))
        self.assertEqual([3, 1, 2], self.colours)
        self.assertEqual([(1, 2), (0, 1)], self.ties)
        self.assertEqual([2, 0, 1], self.row)
        self.assertEqual(self.before, told(self.web))

    def test_what_is_refused_stays_as_it_was(self):
        colours, ties, row = [3, 10, 2], [(1, 2), (0, 1), (1, 2)], [2, 2, 1]
        check_refused(self, BadWeb, lambda: Web(colours, self.ties))
        check_refused(self, BadWeb, lambda: Web(self.colours, ties))
        check_refused(self, BadRow, lambda: renumbered(self.web, row))
        self.assertEqual(([3, 10, 2], [(1, 2), (0, 1), (1, 2)], [2, 2, 1]), (colours, ties, row))
        self.assertEqual(self.before, told(self.web))

    def test_what_was_handed_in_may_be_changed(self):
        self.colours[0] = 9
        self.colours.append(4)
        self.ties.clear()
        self.assertEqual(self.before, told(self.web))
        self.assertTrue(is_same(self.web, Web([3, 1, 2], [(0, 1), (1, 2)])))

    def test_the_row_handed_in_may_be_changed(self):
        web = renumbered(self.web, self.row)
        before = told(web)
        self.row.reverse()
        self.row.append(3)
        self.assertEqual(before, told(web))
        self.assertEqual((3, [1, 2, 3], [(0, 1), (0, 2)], [[1, 2], [0], [0]]), before)

    def test_what_is_told_may_be_changed(self):
        for ask in (self.web.colours, self.web.ties, lambda: self.web.beside(0), lambda: self.web.beside(1)):
            mine = ask()
            mine.reverse()
            mine.append(7)
            self.assertEqual(self.before, told(self.web))

    def test_lists_told_by_a_renumbered_web_may_be_changed(self):
        for row in (self.row, [0, 1, 2]):
            web = renumbered(self.web, row)
            before = told(web)
            for ask in (web.colours, web.ties, lambda: web.beside(0), lambda: web.beside(2)):
                ask().clear()
            self.assertEqual(before, told(web))
            self.assertEqual(self.before, told(self.web))
            self.assertEqual(before, told(renumbered(self.web, row)))

    def test_asked_again_it_is_told_again_the_same(self):
        self.assertEqual(told(Web([3, 1, 2], [(0, 1), (1, 2)])), told(self.web))
        self.assertEqual(told(self.web), told(self.web))


if __name__ == "__main__":
    unittest.main()
