"""Tests of sameweb.tellings: point [7], and point [1] where it speaks of tellings."""

import unittest
from itertools import permutations

from sameweb.cells import first_cells, parted
from sameweb.rows import is_row
from sameweb.tellings import brought
from sameweb.webs import Web, is_same, renumbered
from tests.samples import (
    all_webs, coloured_webs, in_time, kinds, path, ring, rings, some_rows, told, turned_webs, webs_of_rings)

RING_OF_SIX = Web([0] * 6, ring(6))
TWO_RINGS_OF_THREE = Web([0] * 6, rings(3, 3))


class Brought(unittest.TestCase):

    def check(self, web):
        """Checks what is told of the web; gives the colours and ties of its telling."""
        with in_time(10):
            answer = brought(web)
        self.assertIs(tuple, answer.__class__)
        row, telling = answer
        self.assertIs(list, row.__class__)
        self.assertTrue(is_row(row, web.size))
        self.assertIs(Web, telling.__class__)
        self.assertTrue(is_same(renumbered(web, row), telling))
        return told(telling)

    def test_one_point(self):
        for colour in range(10):
            self.assertEqual(((colour,), ()), self.check(Web([colour], [])))
            self.assertEqual([0], brought(Web([colour], []))[0])

    def test_the_row_leads_to_the_web(self):
        for size, colours in ((2, (0, 1, 5)), (3, (0, 1, 5)), (4, (0, 1)), (5, (0,))):
            for web in all_webs(size, colours):
                self.check(web)
        for size in (6, 7, 8, 9, 10, 11, 12):
            for name, web in list(turned_webs(size).items()) + list(coloured_webs(size).items()):
                with self.subTest(size=size, name=name):
                    self.check(web)

    def test_of_small_webs_renumbered_by_all_rows(self):
        for size in (2, 3, 4):
            for web in all_webs(size, (0, 1))[::3]:
                expected = self.check(web)
                for row in permutations(range(size)):
                    self.assertEqual(expected, self.check(renumbered(web, list(row))))

    def test_of_webs_renumbered_by_rows_of_several_kinds(self):
        for size in (6, 7, 8, 9, 12):
            for name, web in list(turned_webs(size).items()) + list(coloured_webs(size).items()):
                expected = self.check(web)
                for row in some_rows(size)[1:]:
                    with self.subTest(size=size, name=name, row=row):
                        self.assertEqual(expected, self.check(renumbered(web, row)))

    def test_brought_to_the_same_just_where_some_row_leads(self):
        tried = ((1, (0, 1, 9), 3), (2, (0, 1, 2), 12), (3, (0, 1), 20), (4, (0, 1), 90), (5, (0,), 34))
        for size, colours, many in tried:
            lists = kinds(all_webs(size, colours))
            self.assertEqual(many, len(lists))
            tellings = []
            for webs in lists:
                expected = self.check(webs[0])
                for web in webs:
                    self.assertEqual(expected, self.check(web))
                tellings.append(expected)
            self.assertEqual(many, len(set(tellings)))

    def test_of_many_webs_of_five_points_and_two_colours(self):
        lists = kinds(all_webs(5, (0, 1))[::7])
        tellings = [{self.check(web) for web in webs} for webs in lists]
        self.assertEqual([1] * len(lists), [len(found) for found in tellings])
        self.assertEqual(len(lists), len({telling for found in tellings for telling in found}))

    def test_the_kinds_of_webs_of_six_points(self):
        self.assertEqual(156, len({told(brought(web)[1]) for web in all_webs(6, (0,))}))

    def test_webs_with_the_same_cells_that_are_not_alike(self):
        cells = first_cells(RING_OF_SIX)
        self.assertEqual(parted(RING_OF_SIX, cells), parted(TWO_RINGS_OF_THREE, cells))
        self.assertNotEqual(self.check(RING_OF_SIX), self.check(TWO_RINGS_OF_THREE))
        for row in permutations(range(6)):
            self.assertEqual(self.check(RING_OF_SIX), self.check(renumbered(RING_OF_SIX, list(row))))
            self.assertEqual(self.check(TWO_RINGS_OF_THREE), self.check(renumbered(TWO_RINGS_OF_THREE, list(row))))

    def test_webs_whose_points_all_have_like_counts_but_that_are_not_alike(self):
        tellings = [self.check(web) for web in webs_of_rings()]
        self.assertEqual(18, len(set(tellings)))
        for web, telling in zip(webs_of_rings(), tellings):
            for row in some_rows(12):
                self.assertEqual(telling, self.check(renumbered(web, row)))

    def test_webs_of_other_colours_alone_are_not_alike(self):
        self.assertNotEqual(self.check(Web([0, 0], [])), self.check(Web([1, 1], [])))
        self.assertNotEqual(self.check(Web([0, 1], [(0, 1)])), self.check(Web([0, 2], [(0, 1)])))
        self.assertNotEqual(self.check(Web([0, 1, 1], [])), self.check(Web([0, 0, 1], [])))
        self.assertNotEqual(self.check(Web([0, 1, 0], path(3))), self.check(Web([1, 0, 0], path(3))))

    def test_a_telling_is_brought_to_itself(self):
        for size in (1, 2, 3, 4):
            for web in all_webs(size, (0, 1)):
                self.assertEqual(self.check(web), self.check(brought(web)[1]))
        for web in list(turned_webs(12).values()) + list(coloured_webs(12).values()):
            self.assertEqual(self.check(web), self.check(brought(web)[1]))

    def test_by_name(self):
        self.assertEqual([0], brought(web=Web([0], []))[0])


class InTime(unittest.TestCase):

    def test_webs_with_many_turns(self):
        for size in (7, 8, 9, 10, 11, 12):
            for name, web in list(turned_webs(size).items()) + list(coloured_webs(size).items()):
                with self.subTest(size=size, name=name), in_time(5):
                    brought(web)

    def test_webs_of_parts_that_are_not_alike(self):
        for at, web in enumerate(webs_of_rings()):
            with self.subTest(at=at), in_time(5):
                brought(web)


class OwnLists(unittest.TestCase):

    def test_what_is_handed_in_stays_as_it_was(self):
        for web in turned_webs(7).values():
            before = told(web)
            brought(web)
            self.assertEqual(before, told(web))
            self.assertEqual(7, web.size)

    def test_what_is_told_may_be_changed(self):
        for web in list(turned_webs(7).values()) + [Web([4], [])]:
            row, telling = brought(web)
            before = list(row), told(telling)
            row.reverse()
            row.append(7)
            telling.colours().clear()
            telling.ties().clear()
            self.assertEqual(before[1], told(telling))
            again, telling_again = brought(web)
            self.assertEqual(before, (again, told(telling_again)))

    def test_the_web_told_is_the_asker_s_own(self):
        for web in (RING_OF_SIX, Web([4], []), brought(RING_OF_SIX)[1]):
            self.assertIsNot(web, brought(web)[1])
            self.assertIsNot(brought(web)[1], brought(web)[1])
            self.assertIsNot(brought(web)[0], brought(web)[0])

    def test_asked_of_another_web_in_between(self):
        for web in turned_webs(8).values():
            row, telling = brought(web)
            brought(renumbered(web, some_rows(8)[1]))
            brought(RING_OF_SIX)
            again, telling_again = brought(web)
            self.assertEqual((row, told(telling)), (again, told(telling_again)))

    def test_ties_handed_in_in_another_order(self):
        ties = [(0, 1), (1, 2), (1, 3), (3, 4)]
        expected = brought(Web([0] * 5, ties))[0]
        for order in permutations(ties):
            self.assertEqual(expected, brought(Web([0] * 5, list(order)))[0])
        for web in list(turned_webs(9).values()) + list(coloured_webs(9).values()):
            expected = brought(web)[0]
            for other in (web.ties()[::-1], web.ties()[1:] + web.ties()[:1]):
                self.assertEqual(expected, brought(Web(web.colours(), other))[0])


if __name__ == "__main__":
    unittest.main()
