"""Tests of sameweb.shelves: point [12], and point [1] where it speaks of shelves."""

import unittest

from sameweb.errors import NoWeb
from sameweb.rows import is_row
from sameweb.shelves import Shelf
from sameweb.webs import Web, is_same, renumbered
from tests.samples import (
    all_webs, coloured_webs, in_time, kinds, path, ring, rings, some_rows, told, turned_webs, webs_of_rings)
from tests.strange import check_refused, strange_things

PATH = Web([0, 0, 0], [(0, 1), (1, 2)])
OTHER_PATH = Web([0, 0, 0], [(0, 1), (0, 2)])
ONE_TIE = Web([0, 0, 0], [(0, 1)])
OTHER_TIE = Web([0, 0, 0], [(1, 2)])
POINT = Web([5], [])


def filled(*webs):
    """A shelf on which these webs are put, in order."""
    shelf = Shelf()
    for web in webs:
        shelf.put(web)
    return shelf


def all_told(shelf):
    """All that the shelf tells of the webs on it."""
    numbers = sorted(number for _, members in shelf.kinds() for number in members)
    ways = [[shelf.way(one, other) for other in numbers] for one in numbers]
    return numbers, [shelf.kind(number) for number in numbers], shelf.kinds(), ways


class Numbers(unittest.TestCase):

    def test_from_0_on(self):
        shelf = Shelf()
        numbers = [shelf.put(web) for web in (PATH, ONE_TIE, PATH, OTHER_PATH, POINT)]
        self.assertEqual([0, 1, 2, 3, 4], numbers)
        self.assertEqual([int] * 5, [number.__class__ for number in numbers])

    def test_the_same_web_has_a_new_number_each_time(self):
        shelf = Shelf()
        self.assertEqual(list(range(30)), [shelf.put(PATH) for _ in range(30)])

    def test_never_the_same_again(self):
        shelf = filled(PATH, ONE_TIE, POINT)
        shelf.drop(2)
        self.assertEqual(3, shelf.put(POINT))
        shelf.drop(0)
        shelf.drop(1)
        shelf.drop(3)
        self.assertEqual([], shelf.kinds())
        self.assertEqual([4, 5], [shelf.put(PATH), shelf.put(POINT)])
        shelf.drop(5)
        self.assertEqual(6, shelf.put(POINT))

    def test_drop_tells_nothing(self):
        self.assertIsNone(filled(PATH).drop(0))

    def test_the_others_stay_where_one_is_dropped(self):
        shelf = filled(PATH, ONE_TIE, PATH, POINT, ONE_TIE)
        shelf.drop(2)
        self.assertEqual([0, 1, 2, 1], [shelf.kind(number) for number in (0, 1, 3, 4)])
        self.assertEqual([(0, [0]), (1, [1, 4]), (2, [3])], shelf.kinds())


class Kinds(unittest.TestCase):

    def test_none(self):
        self.assertEqual([], Shelf().kinds())

    def test_alike_webs_are_of_one_kind(self):
        shelf = filled(PATH, OTHER_PATH, Web([0, 0, 0], [(0, 2), (1, 2)]))
        self.assertEqual([0, 0, 0], [shelf.kind(number) for number in range(3)])
        self.assertEqual([(0, [0, 1, 2])], shelf.kinds())

    def test_others_are_of_another_kind(self):
        webs = [PATH, ONE_TIE, POINT, Web([4], []), Web([0, 0, 1], [(0, 1)]), Web([0, 0, 1], [(1, 2)]),
                Web([0] * 6, ring(6)), Web([0] * 6, rings(3, 3)), Web([0] * 12, []), Web([0] * 11, [])]
        shelf = filled(*webs)
        self.assertEqual(list(range(10)), [shelf.kind(number) for number in range(10)])
        self.assertEqual([(number, [number]) for number in range(10)], shelf.kinds())

    def test_by_turns(self):
        shelf = filled(PATH, ONE_TIE, OTHER_PATH, POINT, OTHER_TIE, PATH)
        self.assertEqual([0, 1, 0, 2, 1, 0], [shelf.kind(number) for number in range(6)])
        self.assertEqual([(0, [0, 2, 5]), (1, [1, 4]), (2, [3])], shelf.kinds())

    def test_what_is_told_is_of_the_kinds_told_in_the_document(self):
        shelf = filled(PATH, ONE_TIE)
        self.assertIs(list, shelf.kinds().__class__)
        self.assertEqual([tuple, tuple], [pair.__class__ for pair in shelf.kinds()])
        self.assertEqual([int, int], [kind.__class__ for kind, _ in shelf.kinds()])
        self.assertEqual([list, list], [numbers.__class__ for _, numbers in shelf.kinds()])
        self.assertIs(int, shelf.kind(1).__class__)

    def test_a_kind_of_which_a_web_is_left_stays(self):
        shelf = filled(PATH, ONE_TIE, OTHER_PATH)
        shelf.drop(0)
        self.assertEqual(0, shelf.kind(2))
        self.assertEqual([(0, [2]), (1, [1])], shelf.kinds())
        self.assertEqual(0, shelf.kind(shelf.put(PATH)))
        self.assertEqual([(0, [2, 3]), (1, [1])], shelf.kinds())

    def test_a_kind_of_which_no_web_is_left_is_forgotten(self):
        shelf = filled(PATH, ONE_TIE, OTHER_PATH)
        shelf.drop(0)
        shelf.drop(2)
        self.assertEqual([(1, [1])], shelf.kinds())
        number = shelf.put(PATH)
        self.assertEqual((3, 2), (number, shelf.kind(number)))
        self.assertEqual([(1, [1]), (2, [3])], shelf.kinds())

    def test_a_kind_has_a_new_number_each_time_that_it_comes_back(self):
        shelf = Shelf()
        for at in range(5):
            number = shelf.put(PATH)
            self.assertEqual((at, at), (number, shelf.kind(number)))
            self.assertEqual([(at, [at])], shelf.kinds())
            shelf.drop(number)
            self.assertEqual([], shelf.kinds())

    def test_the_last_kind_dropped(self):
        shelf = filled(PATH, ONE_TIE)
        shelf.drop(1)
        self.assertEqual(2, shelf.kind(shelf.put(POINT)))
        self.assertEqual(3, shelf.kind(shelf.put(ONE_TIE)))
        self.assertEqual([(0, [0]), (2, [2]), (3, [3])], shelf.kinds())

    def test_more_than_ten_rise_as_numbers(self):
        webs = [Web([0] * (k % 12 + 1), []) for k in range(40)]
        shelf = filled(*webs)
        self.assertEqual([(k, list(range(k, 40, 12))) for k in range(12)], shelf.kinds())
        for number in range(0, 40, 12):
            shelf.drop(number)
        shelf.put(Web([0], []))
        expected = [(k, list(range(k, 40, 12))) for k in range(1, 12)] + [(12, [40])]
        self.assertEqual(expected, shelf.kinds())

    def test_against_a_trial_of_all_rows(self):
        for size, colours in ((2, (0, 1, 2)), (3, (0, 1)), (4, (0,))):
            webs = all_webs(size, colours)
            kind_of = {told(web): at for at, members in enumerate(kinds(webs)) for web in members}
            shelf = filled(*webs)
            expected = [kind_of[told(web)] for web in webs]
            self.assertEqual(expected, [shelf.kind(number) for number in range(len(webs))])
            members = [[at for at, kind in enumerate(expected) if kind == one] for one in range(max(expected) + 1)]
            self.assertEqual(list(enumerate(members)), shelf.kinds())

    def test_webs_with_many_turns(self):
        webs = list(turned_webs(12).values()) + webs_of_rings()
        shelf = Shelf()
        for web in webs:
            with in_time(5):
                number, other = shelf.put(web), shelf.put(renumbered(web, some_rows(12)[-1]))
            self.assertEqual(shelf.kind(number), shelf.kind(other))


class Ways(unittest.TestCase):

    def check(self, shelf, webs):
        """Checks all ways from the webs, which are on the shelf by these numbers, to each other."""
        for number, web in webs.items():
            for other_number, other in webs.items():
                row = shelf.way(number, other_number)
                if shelf.kind(number) == shelf.kind(other_number):
                    self.assertIs(list, row.__class__)
                    self.assertTrue(is_row(row, web.size))
                    self.assertTrue(is_same(renumbered(web, row), other))
                else:
                    self.assertIsNone(row)

    def test_by_hand(self):
        one = Web([0, 1, 2], [(0, 1)])
        other = Web([1, 2, 0], [(0, 2)])
        shelf = filled(one, other, PATH)
        self.assertEqual([2, 0, 1], shelf.way(0, 1))
        self.assertEqual([1, 2, 0], shelf.way(1, 0))
        self.assertEqual([0, 1, 2], shelf.way(0, 0))
        self.assertEqual([0, 1, 2], shelf.way(1, 1))
        self.assertIsNone(shelf.way(0, 2))
        self.assertIsNone(shelf.way(2, 1))

    def test_where_one_of_two_rows_leads(self):
        shelf = filled(PATH, OTHER_PATH)
        self.assertIn(shelf.way(0, 1), ([1, 0, 2], [2, 0, 1]))
        self.assertIn(shelf.way(1, 0), ([1, 0, 2], [1, 2, 0]))

    def test_from_a_web_to_itself(self):
        webs = list(turned_webs(7).values())
        shelf = filled(*webs)
        for number, web in enumerate(webs):
            self.assertTrue(is_same(renumbered(web, shelf.way(number, number)), web))

    def test_each_to_each(self):
        webs = [web for size in (1, 2, 3) for web in all_webs(size, (0, 1))]
        self.check(filled(*webs), dict(enumerate(webs)))
        webs = [renumbered(web, row) for web in list(turned_webs(9).values())[::3] for row in some_rows(9)[:3]]
        self.check(filled(*webs), dict(enumerate(webs)))
        webs = [renumbered(web, row) for web in list(coloured_webs(12).values())[::17] for row in some_rows(12)[:3]]
        self.check(filled(*webs), dict(enumerate(webs)))

    def test_after_drops(self):
        webs = {at: renumbered(web, row) for at, (web, row) in enumerate(
            [(web, row) for row in some_rows(6)[:3] for web in list(turned_webs(6).values())[:5]])}
        shelf = filled(*webs.values())
        for number in (0, 5, 10, 7, 14):
            shelf.drop(number)
            del webs[number]
            self.check(shelf, webs)
        webs[shelf.put(PATH)] = PATH
        webs[shelf.put(OTHER_PATH)] = OTHER_PATH
        self.check(shelf, webs)


class Refused(unittest.TestCase):

    def refuse(self, shelf, thing, there):
        """Checks that the thing is refused as a number, and that nothing is changed; some web is there."""
        before = all_told(shelf)
        for call in (lambda: shelf.drop(thing), lambda: shelf.kind(thing), lambda: shelf.way(thing, there),
                     lambda: shelf.way(there, thing), lambda: shelf.way(thing, thing)):
            check_refused(self, NoWeb, call)
        self.assertEqual(before, all_told(shelf))

    def test_a_number_that_was_never_put(self):
        shelf = filled(PATH, ONE_TIE, OTHER_PATH)
        for number in (3, 4, 12, 100, 10 ** 30, -1, -2, -3, -(10 ** 30)):
            with self.subTest(number=number):
                self.refuse(shelf, number, 0)
        self.assertEqual(3, shelf.put(PATH))

    def test_an_empty_shelf(self):
        shelf = Shelf()
        for number in (0, 1, -1, True, False, None):
            for call in (lambda: shelf.drop(number), lambda: shelf.kind(number), lambda: shelf.way(number, number)):
                check_refused(self, NoWeb, call)
        self.assertEqual([], shelf.kinds())
        self.assertEqual((0, 0), (shelf.put(PATH), shelf.kind(0)))

    def test_one_that_was_dropped(self):
        shelf = filled(PATH, ONE_TIE, OTHER_PATH, POINT)
        shelf.drop(0)
        self.refuse(shelf, 0, 2)
        shelf.drop(3)
        self.refuse(shelf, 3, 2)
        shelf.put(PATH)
        shelf.put(POINT)
        self.refuse(shelf, 0, 4)
        self.refuse(shelf, 3, 4)

    def test_no_number(self):
        shelf = filled(PATH, ONE_TIE, OTHER_PATH)
        for thing in (True, False, "0", "1", "", None, [], [0], {}, {0: 0}, (), (0,), 0.0, 1.0, b"\x00", {0}, PATH):
            with self.subTest(thing=thing):
                self.refuse(shelf, thing, 0)

    def test_things_of_any_kind(self):
        shelf = filled(PATH, ONE_TIE, OTHER_PATH)
        for at, thing in enumerate(strange_things()):
            with self.subTest(at=at):
                self.refuse(shelf, thing, 1)
                check_refused(self, NoWeb, lambda: shelf.drop([thing]))

    def test_two_that_are_not_there(self):
        shelf = filled(PATH)
        for one, other in ((1, 2), (None, 1), (1, None), ([], {}), (True, True), (-1, "0")):
            check_refused(self, NoWeb, lambda: shelf.way(one, other))

    def test_what_is_refused_takes_no_number_of_a_web_or_a_kind(self):
        shelf = filled(PATH)
        for number in (1, -1, True, None):
            self.refuse(shelf, number, 0)
        self.assertEqual((1, 1), (shelf.put(POINT), shelf.kind(1)))


class OwnLists(unittest.TestCase):

    def setUp(self):
        self.shelf = filled(PATH, ONE_TIE, OTHER_PATH, POINT, OTHER_TIE)
        self.before = ([0, 1, 2, 3, 4], [0, 1, 0, 2, 1], [(0, [0, 2]), (1, [1, 4]), (2, [3])],
                       all_told(self.shelf)[3])

    def test_two_shelves_are_apart(self):
        other = Shelf()
        self.assertEqual([], other.kinds())
        self.assertEqual((0, 0), (other.put(POINT), other.kind(0)))
        self.assertEqual((1, 1), (other.put(PATH), other.kind(1)))
        other.drop(0)
        self.assertEqual(self.before, all_told(self.shelf))
        self.assertEqual([(1, [1])], other.kinds())
        self.assertEqual(5, self.shelf.put(PATH))
        self.assertEqual([(1, [1])], other.kinds())
        check_refused(self, NoWeb, lambda: other.kind(0))
        check_refused(self, NoWeb, lambda: other.kind(4))

    def test_what_is_put_stays_as_it_was(self):
        web = Web([1, 0, 0], [(1, 2), (0, 1)])
        before = told(web)
        self.shelf.put(web)
        self.shelf.way(5, 5)
        self.shelf.drop(5)
        self.assertEqual((before, 3), (told(web), web.size))

    def test_the_lists_of_what_was_put_may_be_changed(self):
        colours, ties = [1, 0, 0], [(1, 2), (0, 1)]
        web = Web(colours, ties)
        number = self.shelf.put(web)
        way = self.shelf.way(number, number)
        colours.reverse()
        ties.clear()
        web.colours().clear()
        web.ties().clear()
        web.size = 1
        self.assertEqual(3, self.shelf.kind(number))
        self.assertEqual(way, self.shelf.way(number, number))
        other = self.shelf.put(Web([0, 0, 1], [(0, 1), (1, 2)]))
        self.assertEqual(3, self.shelf.kind(other))
        self.assertEqual([2, 1, 0], self.shelf.way(number, other))

    def test_told_kinds_may_be_changed(self):
        mine = self.shelf.kinds()
        for _, numbers in mine:
            numbers.reverse()
            numbers.append(9)
        mine.clear()
        self.assertEqual(self.before, all_told(self.shelf))
        self.shelf.put(PATH)
        self.assertEqual([(0, [0, 2, 5]), (1, [1, 4]), (2, [3])], self.shelf.kinds())

    def test_told_kinds_stay_whatever_is_done_later(self):
        mine = self.shelf.kinds()
        self.shelf.put(PATH)
        self.shelf.drop(1)
        self.shelf.drop(3)
        self.assertEqual(self.before[2], mine)

    def test_told_ways_may_be_changed(self):
        for one in range(5):
            for other in range(5):
                mine = self.shelf.way(one, other)
                if mine is not None:
                    mine.reverse()
                    mine.append(9)
        self.assertEqual(self.before, all_told(self.shelf))

    def test_told_ways_stay_whatever_is_done_later(self):
        mine = self.shelf.way(0, 2)
        before = list(mine)
        for number in range(5):
            self.shelf.drop(number)
        self.shelf.put(PATH)
        self.assertEqual(before, mine)

    def test_asked_again_it_is_told_again_the_same(self):
        self.assertEqual(self.before, all_told(self.shelf))
        self.shelf.drop(self.shelf.put(Web([0] * 12, path(12))))
        self.assertEqual(self.before, all_told(self.shelf))

    def test_webs_with_the_same_colours_and_ties_have_the_same_ways(self):
        for web in turned_webs(8).values():
            other = renumbered(web, some_rows(8)[1])
            one = filled(web, other)
            two = filled(POINT, Web(other.colours(), other.ties()[::-1]), Web(web.colours(), web.ties()[::-1]))
            self.assertEqual((one.way(0, 1), one.way(1, 0)), (two.way(2, 1), two.way(1, 2)))

    def test_by_name(self):
        shelf = Shelf()
        self.assertEqual(0, shelf.put(web=POINT))
        self.assertEqual(0, shelf.kind(number=0))
        self.assertEqual([0], shelf.way(one=0, other=0))
        self.assertIsNone(shelf.drop(number=0))


if __name__ == "__main__":
    unittest.main()
