"""Tests of sameweb.rows: point [3], and point [1] where it speaks of rows."""

import unittest
from itertools import permutations

from sameweb.errors import BadRow
from sameweb.rows import back, behind, is_row
from tests.strange import check_refused, strange_things

ROUND = [11, 0, 1, 2, 3, 4, 5, 6, 7, 8, 9, 10]


class IsRow(unittest.TestCase):

    def check(self, expected, thing, size):
        with self.subTest(size=size):
            self.assertIs(expected, is_row(thing, size))

    def test_rows(self):
        self.check(True, [0], 1)
        self.check(True, [0, 1], 2)
        self.check(True, [1, 0], 2)
        self.check(True, [2, 0, 1], 3)
        self.check(True, list(range(12)), 12)
        self.check(True, ROUND, 12)

    def test_each_order_of_all_numbers_is_a_row(self):
        for size in range(1, 6):
            for order in permutations(range(size)):
                self.check(True, list(order), size)

    def test_a_number_twice(self):
        self.check(False, [0, 0], 2)
        self.check(False, [0, 1, 1], 3)
        self.check(False, [0, 1, 2, 1], 3)
        self.check(False, [10] + list(range(11)), 12)

    def test_a_number_left_out(self):
        self.check(False, [0, 2], 2)
        self.check(False, [1, 2], 2)
        self.check(False, [1], 1)

    def test_a_number_below_nought(self):
        self.check(False, [-1], 1)
        self.check(False, [0, -1], 2)
        self.check(False, [-1, 0, 1], 3)

    def test_a_number_as_great_as_the_size(self):
        self.check(False, [1], 1)
        self.check(False, [0, 1, 3], 3)
        self.check(False, list(range(1, 13)), 12)

    def test_no_number_in_the_place_of_one(self):
        for thing in (True, 1.0, "1", b"1", None, [1], [], (1,), {}, 1 + 0j):
            self.check(False, [0, thing], 2)
            self.check(False, [thing, 0], 2)
            self.check(False, [2, thing, 0], 3)
        for thing in (False, 0.0, "0", None, [0], [], 0j):
            self.check(False, [thing], 1)
            self.check(False, [thing, 1], 2)

    def test_no_list(self):
        for thing in ((0,), None, 0, 1, "0", {0: 0}, {0}, range(1), b"\x00", True, False):
            self.check(False, thing, 1)
        for thing in ((0, 1), None, 2, "01", {0: 0, 1: 1}, {0, 1}, range(2), b"\x00\x01"):
            self.check(False, thing, 2)
        self.check(False, tuple(range(12)), 12)

    def test_the_empty_list(self):
        for size in (0, 1, 2, 12):
            self.check(False, [], size)

    def test_a_row_of_another_size(self):
        self.check(False, [0], 2)
        self.check(False, [0, 1], 1)
        self.check(False, [0, 1, 2], 2)
        self.check(False, list(range(11)), 12)
        self.check(False, list(range(12)), 11)
        self.check(False, [0], 12)

    def test_beyond_the_greatest_size(self):
        self.check(True, list(range(13)), 13)
        self.check(False, list(range(12)), 13)
        self.check(False, [0], 10 ** 30)

    def test_no_whole_number_from_1_on_is_no_size(self):
        self.check(False, [0], True)
        self.check(False, [], False)
        self.check(False, [], -1)

    def test_things_of_any_kind(self):
        for at, thing in enumerate(strange_things()):
            for size in (1, 2, 3, 12):
                with self.subTest(at=at, size=size):
                    self.assertIs(False, is_row(thing, size))


class Behind(unittest.TestCase):

    def test_by_hand(self):
        self.assertEqual([0], behind([0], [0]))
        self.assertEqual([2, 1, 0], behind([1, 2, 0], [0, 2, 1]))
        self.assertEqual([1, 0, 2], behind([0, 2, 1], [1, 2, 0]))
        self.assertEqual([3, 0, 2, 1], behind([1, 0, 3, 2], [0, 3, 1, 2]))
        self.assertEqual([10, 11, 0, 1, 2, 3, 4, 5, 6, 7, 8, 9], behind(ROUND, ROUND))

    def test_the_one_first_then_the_other(self):
        for one in permutations(range(4)):
            for other in permutations(range(4)):
                told = behind(list(one), list(other))
                self.assertEqual([other[one[k]] for k in range(4)], told)

    def test_the_row_that_moves_nothing(self):
        still = list(range(12))
        self.assertEqual(ROUND, behind(still, ROUND))
        self.assertEqual(ROUND, behind(ROUND, still))

    def test_no_row_in_either_place(self):
        bad = [[], [0, 0], [1, 2], [-1, 0], [0, True], [False, 1], [0, None], [0, "1"], [0, [1]], (0, 1), "01", None, 1]
        for at, thing in enumerate(bad):
            with self.subTest(at=at):
                check_refused(self, BadRow, lambda: behind(thing, [1, 0]))
                check_refused(self, BadRow, lambda: behind([1, 0], thing))
                check_refused(self, BadRow, lambda: behind(thing, thing))

    def test_rows_of_two_sizes(self):
        check_refused(self, BadRow, lambda: behind([0], [0, 1]))
        check_refused(self, BadRow, lambda: behind([0, 1], [0]))
        check_refused(self, BadRow, lambda: behind(list(range(11)), list(range(12))))
        check_refused(self, BadRow, lambda: behind(list(range(12)), list(range(11))))

    def test_things_of_any_kind(self):
        for at, thing in enumerate(strange_things()):
            with self.subTest(at=at):
                check_refused(self, BadRow, lambda: behind(thing, [0]))
                check_refused(self, BadRow, lambda: behind([0], thing))
                check_refused(self, BadRow, lambda: behind(thing, thing))


class Back(unittest.TestCase):

    def test_by_hand(self):
        self.assertEqual([0], back([0]))
        self.assertEqual([1, 0], back([1, 0]))
        self.assertEqual([2, 0, 1], back([1, 2, 0]))
        self.assertEqual([2, 3, 1, 0], back([3, 2, 0, 1]))
        self.assertEqual([1, 2, 3, 4, 5, 6, 7, 8, 9, 10, 11, 0], back(ROUND))

    def test_done_behind_the_row_it_moves_nothing(self):
        rows = [list(order) for size in range(1, 6) for order in permutations(range(size))]
        for row in rows + [ROUND]:
            still = list(range(len(row)))
            self.assertEqual(still, behind(row, back(row)))
            self.assertEqual(still, behind(back(row), row))

    def test_no_row(self):
        bad = [[], [1], [0, 0], [0, 2], [-1, 0], [True], [0, True], [None], ["0"], [[0]], (0,), "0", None, 0, {0: 0}]
        for at, thing in enumerate(bad):
            with self.subTest(at=at):
                check_refused(self, BadRow, lambda: back(thing))

    def test_things_of_any_kind(self):
        for at, thing in enumerate(strange_things()):
            with self.subTest(at=at):
                check_refused(self, BadRow, lambda: back(thing))


class OwnLists(unittest.TestCase):

    def test_what_is_handed_in_stays_as_it_was(self):
        one, other = [1, 2, 0], [0, 2, 1]
        is_row(one, 3)
        behind(one, other)
        back(one)
        check_refused(self, BadRow, lambda: behind(one, [0]))
        self.assertEqual(([1, 2, 0], [0, 2, 1]), (one, other))
        bad = [2, 2, 0]
        is_row(bad, 3)
        check_refused(self, BadRow, lambda: behind(bad, one))
        check_refused(self, BadRow, lambda: behind(one, bad))
        check_refused(self, BadRow, lambda: back(bad))
        self.assertEqual([2, 2, 0], bad)

    def test_what_is_told_may_be_changed(self):
        one, other, still = [1, 2, 0], [0, 2, 1], [0, 1, 2]
        for ask in (lambda: behind(one, other), lambda: behind(one, still), lambda: behind(still, one),
                    lambda: back(one), lambda: back(still)):
            told = ask()
            before = list(told)
            told.reverse()
            told.append(9)
            self.assertEqual(before, ask())
        self.assertEqual(([1, 2, 0], [0, 2, 1], [0, 1, 2]), (one, other, still))

    def test_what_was_handed_in_may_be_changed(self):
        one, other = [1, 2, 0], [0, 2, 1]
        done, undone = behind(one, other), back(one)
        one.clear()
        other.reverse()
        self.assertEqual(([2, 1, 0], [2, 0, 1]), (done, undone))


if __name__ == "__main__":
    unittest.main()
