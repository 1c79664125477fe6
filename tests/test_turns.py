"""Tests of sameweb.turns: points [8], [9] and [10], and point [1] where it speaks of turns."""

import unittest
from itertools import permutations
from math import factorial, prod

from sameweb.errors import BadRow, NoTurn
from sameweb.rows import back, behind, is_row
from sameweb.turns import alike, floors, many_turns, steps_of
from sameweb.webs import Web, is_same, renumbered
from tests.samples import (
    all_ties, all_webs, coloured_webs, in_time, path, ring, rings, shifted, sides, some_rows, told, turned_webs,
    webs_of_rings)
from tests.strange import check_refused, strange_things


def of_one_colour(size, ties):
    """The web of one colour."""
    return Web([0] * size, ties)


def nothing(size):
    """The row that moves nothing."""
    return list(range(size))


def named_webs(size):
    """Webs of a size from 6 on, of one colour and of several, each with a name."""
    return list(turned_webs(size).items()) + list(coloured_webs(size).items())


def small_webs():
    """Webs of up to five points, all of them or many."""
    webs = [web for size, colours in ((1, (0, 9)), (2, (0, 1)), (3, (0, 1)), (4, (0,)))
            for web in all_webs(size, colours)]
    return webs + all_webs(4, (0, 1))[::5] + all_webs(5, (0,))[::3] + all_webs(5, (0, 1))[::101]


def turns_by_trial(web):
    """All turns of the web, all rows tried, by the words of points [3] and [4]."""
    colours, ties = web.colours(), set(web.ties())
    found = []
    for row in permutations(range(web.size)):
        moved = {(min(row[a], row[b]), max(row[a], row[b])) for a, b in ties}
        if moved == ties and all(colours[row[k]] == colours[k] for k in range(web.size)):
            found.append(list(row))
    return found


def some_turn_begins(web, start):
    """Whether some turn of the web begins so, tried point by point."""
    colours = web.colours()
    beside = [set(web.beside(k)) for k in range(web.size)]

    def fits(row):
        k, x = len(row) - 1, row[-1]
        return colours[k] == colours[x] and x not in row[:-1] and all(
            (j in beside[k]) == (row[j] in beside[x]) for j in range(k))

    def goes_on(row):
        return len(row) == web.size or any(fits(row + [x]) and goes_on(row + [x]) for x in range(web.size))

    return all(fits(start[:k + 1]) for k in range(len(start))) and goes_on(start)


def is_turned(web, one, other):
    """Whether some turn leads the one point to the other, tried point by point."""
    one_first = back([one] + [k for k in range(web.size) if k != one])
    return some_turn_begins(renumbered(web, one_first), [one_first[other]])


def copied(told_floors):
    """The floors, copied through and through."""
    return [[(x, list(turn)) for x, turn in floor] for floor in told_floors]


class Floors(unittest.TestCase):

    def check(self, web):
        """Checks what each floor promises of itself; gives the points of each floor."""
        with in_time(10):
            answer = floors(web)
        self.assertIs(list, answer.__class__)
        self.assertEqual(web.size, len(answer))
        for k, floor in enumerate(answer):
            self.assertIs(list, floor.__class__)
            self.assertEqual((k, nothing(web.size)), floor[0])
            points = [pair[0] for pair in floor]
            self.assertEqual(sorted(set(points)), points)
            for pair in floor:
                self.assertIs(tuple, pair.__class__)
                self.check_pair(web, k, *pair)
        return [[x for x, _ in floor] for floor in answer]

    def check_pair(self, web, k, x, turn):
        """Checks that the turn is one, leaves all points below k and leads k to x."""
        self.assertIs(int, x.__class__)
        self.assertIs(list, turn.__class__)
        self.assertTrue(is_row(turn, web.size))
        self.assertTrue(is_same(renumbered(web, turn), web))
        self.assertEqual(list(range(k)) + [x], turn[:k + 1])

    def test_the_example_of_the_document(self):
        for colour in range(10):
            for ties in ([], [(0, 1)]):
                expected = [[(0, [0, 1]), (1, [1, 0])], [(1, [0, 1])]]
                self.assertEqual(expected, floors(Web([colour, colour], ties)))

    def test_one_point(self):
        for colour in range(10):
            self.assertEqual([[(0, [0])]], floors(Web([colour], [])))

    def test_two_points_of_two_colours(self):
        for ties in ([], [(0, 1)]):
            self.assertEqual([[(0, [0, 1])], [(1, [0, 1])]], floors(Web([3, 4], ties)))

    def test_paths(self):
        expected = [[(0, [0, 1, 2]), (2, [2, 1, 0])], [(1, [0, 1, 2])], [(2, [0, 1, 2])]]
        self.assertEqual(expected, floors(of_one_colour(3, path(3))))
        for size in range(2, 13):
            self.assertEqual([[0, size - 1]] + [[k] for k in range(1, size)], self.check(of_one_colour(size, path(size))))

    def test_rings(self):
        # Each turn of a ring leads 0 anywhere; one that leaves 0 may change the sides, and with that moves 1.
        for size in range(3, 13):
            expected = [nothing(size), [1, size - 1]] + [[k] for k in range(2, size)]
            self.assertEqual(expected, self.check(of_one_colour(size, ring(size))))

    def test_two_rings(self):
        expected = [[0, 1, 2, 3, 4, 5], [1, 2], [2], [3, 4, 5], [4, 5], [5]]
        self.assertEqual(expected, self.check(of_one_colour(6, rings(3, 3))))
        expected = [[0, 1, 2], [1, 2], [2], [3, 4, 5, 6], [4, 6], [5], [6]]
        self.assertEqual(expected, self.check(of_one_colour(7, rings(3, 4))))
        expected = [nothing(12), [1, 5], [2], [3], [4], [5], [6, 7, 8, 9, 10, 11], [7, 11], [8], [9], [10], [11]]
        self.assertEqual(expected, self.check(of_one_colour(12, rings(6, 6))))

    def test_pairs(self):
        # 0 goes anywhere and takes 1 along; then 2 goes to any point behind them, and so on.
        for size in range(2, 13, 2):
            ties = [(k, k + 1) for k in range(0, size, 2)]
            expected = [list(range(k, size)) if k % 2 == 0 else [k] for k in range(size)]
            self.assertEqual(expected, self.check(of_one_colour(size, ties)))

    def test_no_ties_and_all_ties(self):
        for size in range(1, 13):
            expected = [list(range(k, size)) for k in range(size)]
            self.assertEqual(expected, self.check(of_one_colour(size, [])))
            self.assertEqual(expected, self.check(of_one_colour(size, all_ties(size))))

    def test_several_colours(self):
        self.assertEqual([[0, 2], [1, 3], [2], [3]], self.check(Web([0, 1, 0, 1], [])))
        self.assertEqual([[0, 2], [1, 3], [2], [3]], self.check(Web([0, 1, 0, 1], ring(4))))
        self.assertEqual([[0, 2], [1], [2], [3]], self.check(Web([0, 1, 0, 2], ring(4))))
        self.assertEqual([[0], [1], [2], [3]], self.check(Web([0, 1, 2, 3], all_ties(4))))
        self.assertEqual([[0], [1], [2]], self.check(Web([0, 0, 1], path(3))))
        self.assertEqual([[0, 3], [1], [2], [3]], self.check(Web([5, 7, 7, 5], path(4))))
        expected = [[0, 10], [1, 11]] + [[k] for k in range(2, 12)]
        self.assertEqual(expected, self.check(Web([k % 10 for k in range(12)], [])))

    def test_two_rings_that_share_a_point(self):
        ties = [(0, 1), (0, 2), (1, 2), (0, 3), (0, 4), (3, 4)]
        self.assertEqual([[0], [1, 2, 3, 4], [2], [3, 4], [4]], self.check(of_one_colour(5, ties)))

    def test_webs_with_many_turns(self):
        for size in (6, 7, 8, 9, 12):
            for name, web in named_webs(size):
                with self.subTest(size=size, name=name):
                    self.check(web)

    def test_against_a_trial_of_all_rows(self):
        for web in small_webs():
            turns = turns_by_trial(web)
            expected = [sorted({turn[k] for turn in turns if turn[:k] == list(range(k))}) for k in range(web.size)]
            self.assertEqual(expected, self.check(web))

    def test_against_a_trial_point_by_point(self):
        webs = [web for size in (7, 12) for _, web in named_webs(size)[::3]]
        for web in webs + [renumbered(web, some_rows(12)[-1]) for web in webs_of_rings()]:
            size = web.size
            expected = [[x for x in range(size) if some_turn_begins(web, list(range(k)) + [x])] for k in range(size)]
            self.assertEqual(expected, self.check(web))

    def test_by_name(self):
        self.assertEqual([[(0, [0])]], floors(web=Web([0], [])))


class ManyTurns(unittest.TestCase):

    def check(self, expected, web):
        with in_time(10):
            many = many_turns(web)
        self.assertIs(int, many.__class__)
        self.assertEqual(expected, many)

    def test_one_point(self):
        self.check(1, Web([0], []))

    def test_the_lengths_of_the_floors_multiplied(self):
        for size in (6, 9, 12):
            for name, web in named_webs(size)[::4]:
                with self.subTest(size=size, name=name):
                    self.check(prod(len(floor) for floor in floors(web)), web)

    def test_how_many_of_all_rows_are_turns(self):
        for web in small_webs():
            self.check(len(turns_by_trial(web)), web)
        for web in turned_webs(6).values():
            self.check(len(turns_by_trial(web)), web)

    def test_no_ties_and_all_ties(self):
        for size in range(1, 13):
            self.check(factorial(size), of_one_colour(size, []))
            self.check(factorial(size), of_one_colour(size, all_ties(size)))
        self.check(479001600, of_one_colour(12, []))

    def test_rings(self):
        for size in range(3, 13):
            self.check(2 * size, of_one_colour(size, ring(size)))

    def test_paths(self):
        for size in range(2, 13):
            self.check(2, of_one_colour(size, path(size)))

    def test_pairs(self):
        for half in range(1, 7):
            ties = [(2 * k, 2 * k + 1) for k in range(half)]
            self.check(2 ** half * factorial(half), of_one_colour(2 * half, ties))

    def test_two_sides_with_all_ties_across(self):
        for one in range(1, 12):
            for other in range(1, 13 - one):
                expected = factorial(one) * factorial(other) * (2 if one == other else 1)
                self.check(expected, of_one_colour(one + other, sides(one, other)))

    def test_webs_of_rings(self):
        # Rings of n points have 2 n turns each; rings of one size may change their places, too.
        expected = [24, 6 * 18, 8 * 16, 10 * 14, 2 * 12 * 12, 2 * 6 * 6 * 12, 6 * 8 * 10, 6 * 8 ** 3, 24 * 6 ** 4]
        for many, web in zip(expected + expected, webs_of_rings()):
            self.check(many, web)

    def test_some_more_known_numbers(self):
        cube = rings(4, 4) + [(k, k + 4) for k in range(4)]
        self.check(48, of_one_colour(8, cube))
        star = ring(5) + [(k, k + 5) for k in range(5)] + [(a + 5, b + 5) for a, b in ring(5, 2)]
        self.check(120, of_one_colour(10, star))
        # The twelve corners of a body with twenty sides.
        belts = shifted(ring(5), 1) + shifted(ring(5), 6)
        across = [pair for k in range(5) for pair in ((k + 1, k + 6), (k + 1, (k + 1) % 5 + 6))]
        ends = [(0, k) for k in range(1, 6)] + [(k, 11) for k in range(6, 11)]
        self.check(120, of_one_colour(12, belts + across + ends))
        self.check(1, of_one_colour(7, path(6) + [(2, 6)]))

    def test_colours(self):
        self.check(factorial(6) ** 2, Web([0, 1] * 6, []))
        self.check(12, Web([0, 1] * 6, ring(12)))
        self.check(6, Web([0, 0, 1, 1] * 3, ring(12)))
        self.check(2, Web([1] + [0] * 11, ring(12)))
        self.check(factorial(6) ** 2, Web([3] * 6 + [8] * 6, sides(6, 6)))
        self.check(4, Web([k % 10 for k in range(12)], all_ties(12)))

    def test_of_a_web_renumbered(self):
        for name, web in named_webs(9):
            with self.subTest(name=name):
                self.check(many_turns(renumbered(web, some_rows(9)[-1])), web)

    def test_by_name(self):
        self.assertEqual(1, many_turns(web=Web([0], [])))


class StepsOf(unittest.TestCase):

    def check(self, web, row, told_floors):
        """Checks that the row is made of the told steps, each of its floor; gives them."""
        with in_time(10):
            steps = steps_of(web, row)
        self.assertIs(list, steps.__class__)
        self.assertEqual(web.size, len(steps))
        made = nothing(web.size)
        for step in steps[::-1]:
            made = behind(made, step)
        self.assertEqual(row, made)
        for step, floor in zip(steps, told_floors):
            self.assertIs(list, step.__class__)
            self.assertIn(step, [turn for _, turn in floor])
        return steps

    def test_by_hand(self):
        web = of_one_colour(2, [])
        self.assertEqual([[0, 1], [0, 1]], steps_of(web, [0, 1]))
        self.assertEqual([[1, 0], [0, 1]], steps_of(web, [1, 0]))
        self.assertEqual([[0]], steps_of(Web([7], []), [0]))

    def test_that_of_floor_0_is_first(self):
        web = Web([0, 0, 1, 1], [])
        expected = [[1, 0, 2, 3], [0, 1, 2, 3], [0, 1, 3, 2], [0, 1, 2, 3]]
        self.assertEqual(expected, steps_of(web, [1, 0, 3, 2]))

    def test_each_turn_of_small_webs(self):
        for web in small_webs()[::2]:
            told_floors = floors(web)
            for turn in turns_by_trial(web):
                self.check(web, turn, told_floors)

    def test_in_just_one_way(self):
        for web in (of_one_colour(4, []), of_one_colour(5, ring(5)), Web([0, 1, 0, 1, 0], [])):
            turns = turns_by_trial(web)
            steps = {str(steps_of(web, turn)) for turn in turns}
            self.assertEqual(len(turns), len(steps))
            self.assertEqual(many_turns(web), len(steps))

    def test_the_row_that_moves_nothing(self):
        for size in (1, 2, 6, 12):
            self.assertEqual([nothing(size)] * size, steps_of(of_one_colour(size, []), nothing(size)))
            self.assertEqual([nothing(size)] * size, steps_of(of_one_colour(size, path(size)), nothing(size)))

    def test_a_turn_of_a_floor_is_made_of_itself_alone(self):
        for web in list(turned_webs(6).values()):
            for k, floor in enumerate(floors(web)):
                for _, turn in floor:
                    expected = [nothing(6)] * k + [turn] + [nothing(6)] * (5 - k)
                    self.assertEqual(expected, steps_of(web, turn))

    def test_turns_of_webs_of_twelve_points(self):
        for name, web in turned_webs(12).items():
            told_floors = floors(web)
            made = nothing(12)
            for floor in told_floors:
                made = behind(made, floor[-1][1])
            with self.subTest(name=name):
                self.check(web, made, told_floors)
        web = of_one_colour(12, [])
        for row in some_rows(12):
            self.check(web, row, floors(web))

    def test_no_row(self):
        web = Web([0, 0, 0], [])
        bad = [[], [0, 1, 1], [0, 1, 3], [-1, 0, 1], [1, 2, 3], [0, True, 2], [False, 1, 2], [0, 1, None], [0, 1, "2"],
               [0, 1, [2]], [0, 1, 2.0], (0, 1, 2), "012", None, 3, {0: 0, 1: 1, 2: 2}, {0, 1, 2}, range(3), b"012"]
        for at, thing in enumerate(bad):
            with self.subTest(at=at):
                check_refused(self, BadRow, lambda: steps_of(web, thing))

    def test_a_row_of_another_size(self):
        for size in (1, 2, 3, 12):
            for other in (1, 2, 3, 4, 11, 12, 13):
                if other != size:
                    with self.subTest(size=size, other=other):
                        check_refused(self, BadRow, lambda: steps_of(of_one_colour(size, []), nothing(other)))

    def test_no_row_of_any_kind(self):
        for at, thing in enumerate(strange_things()):
            for web in (Web([0], []), Web([0, 0], [(0, 1)]), Web([0, 1], [])):
                with self.subTest(at=at, size=web.size):
                    check_refused(self, BadRow, lambda: steps_of(web, thing))
                    check_refused(self, BadRow, lambda: steps_of(web, [thing, 0]))
                    check_refused(self, BadRow, lambda: steps_of(web, [0, thing]))

    def test_a_row_that_is_no_turn(self):
        for web, row in ((Web([0, 1], []), [1, 0]), (of_one_colour(3, path(3)), [1, 0, 2]),
                         (of_one_colour(3, path(3)), [1, 2, 0]), (of_one_colour(4, ring(4)), [1, 0, 2, 3]),
                         (Web([0, 0, 1, 1], ring(4)), [1, 2, 3, 0]), (of_one_colour(12, path(12)), some_rows(12)[2])):
            with self.subTest(row=row):
                check_refused(self, NoTurn, lambda: steps_of(web, row))

    def test_each_row_of_small_webs_that_is_no_turn(self):
        for web in small_webs()[::3]:
            turns = turns_by_trial(web)
            for row in permutations(range(web.size)):
                if list(row) not in turns:
                    check_refused(self, NoTurn, lambda: steps_of(web, list(row)))

    def test_no_row_is_refused_so_ahead_of_no_turn(self):
        web = Web([0, 1, 2], [(0, 1)])
        for row in ([2, 1], [2, 1, 0, 3], [2, 1, 1], [2, 0, True], (2, 1, 0)):
            with self.subTest(row=row):
                check_refused(self, BadRow, lambda: steps_of(web, row))
        check_refused(self, NoTurn, lambda: steps_of(web, [2, 1, 0]))

    def test_by_name(self):
        self.assertEqual([[0]], steps_of(web=Web([0], []), row=[0]))


class Alike(unittest.TestCase):

    def check(self, expected, web):
        with in_time(10):
            lists = alike(web)
        self.assertIs(list, lists.__class__)
        self.assertTrue(all(points.__class__ is list for points in lists))
        self.assertTrue(all(point.__class__ is int for points in lists for point in points))
        self.assertEqual(expected, lists)

    def test_by_hand(self):
        self.check([[0]], Web([4], []))
        self.check([[0, 1]], Web([4, 4], []))
        self.check([[0], [1]], Web([4, 5], [(0, 1)]))
        self.check([[0, 4], [1, 3], [2]], of_one_colour(5, path(5)))
        self.check([[0], [1, 2, 3]], of_one_colour(4, sides(1, 3)))
        self.check([[0, 1, 2], [3, 4, 5, 6]], of_one_colour(7, rings(3, 4)))
        self.check([[0, 2], [1, 3]], Web([9, 0, 9, 0], ring(4)))
        self.check([[0, 3, 4, 7], [1, 2, 5, 6]], of_one_colour(8, path(4) + shifted(path(4), 4)))

    def test_by_first_points(self):
        self.check([[0, 3], [1, 4], [2, 5]], Web([9, 5, 1, 9, 5, 1], []))
        self.check([[0, 11], [1, 10], [2, 9], [3, 8], [4, 7], [5, 6]], of_one_colour(12, path(12)))

    def test_webs_in_which_all_points_are_turned_to_one_another(self):
        for size in range(3, 13):
            for ties in ([], all_ties(size), ring(size)):
                self.check([nothing(size)], of_one_colour(size, ties))
        for ties in (rings(6, 6), rings(3, 3, 3, 3), sides(6, 6), [(2 * k, 2 * k + 1) for k in range(6)]):
            self.check([nothing(12)], of_one_colour(12, ties))

    def test_webs_without_turns_but_one(self):
        self.check([[k] for k in range(7)], of_one_colour(7, path(6) + [(2, 6)]))
        self.check([[0], [1], [2], [3]], Web([1, 0, 3, 2], all_ties(4)))

    def test_points_with_like_counts_that_are_not_turned_to_one_another(self):
        self.check([[0, 1, 2], list(range(3, 12))], of_one_colour(12, rings(3, 9)))
        self.check([[0, 1, 2], [3, 4, 5, 6], [7, 8, 9, 10, 11]], of_one_colour(12, rings(3, 4, 5)))
        self.check([[0, 1, 2, 3, 4, 5], [6, 7, 8, 9, 10, 11]], of_one_colour(12, rings(3, 3, 6)))

    def test_against_a_trial_of_all_rows(self):
        for web in small_webs():
            turns = turns_by_trial(web)
            lists = [sorted({turn[k] for turn in turns}) for k in range(web.size)]
            self.check([points for k, points in enumerate(lists) if points[0] == k], web)

    def test_against_a_trial_point_by_point(self):
        for web in [web for _, web in named_webs(12)[::20]] + webs_of_rings()[:9]:
            other = renumbered(web, some_rows(12)[-1])
            lists = [[x for x in range(12) if is_turned(other, k, x)] for k in range(12)]
            self.check([points for k, points in enumerate(lists) if points[0] == k], other)

    def test_of_a_web_renumbered(self):
        for size in (6, 9, 12):
            for name, web in named_webs(size)[::4]:
                for row in some_rows(size)[-2:]:
                    with self.subTest(size=size, name=name, row=row):
                        expected = sorted(sorted(row[point] for point in points) for points in alike(web))
                        self.check(expected, renumbered(web, row))

    def test_each_point_is_in_just_one(self):
        for size in (6, 7, 8, 12):
            for name, web in named_webs(size)[::4]:
                with self.subTest(size=size, name=name):
                    lists = alike(web)
                    self.assertEqual(nothing(size), sorted(point for points in lists for point in points))
                    self.check(sorted(sorted(points) for points in lists), web)

    def test_by_name(self):
        self.assertEqual([[0]], alike(web=Web([0], [])))


class InTime(unittest.TestCase):

    def test_webs_with_many_turns(self):
        for size in (7, 8, 9, 12):
            for name, web in turned_webs(size).items():
                with self.subTest(size=size, name=name), in_time(5):
                    turn = floors(web)[0][-1][1]
                    many_turns(web)
                    steps_of(web, turn)
                    alike(web)

    def test_webs_of_colours_and_of_rings(self):
        for web in list(coloured_webs(12).values())[::3] + webs_of_rings():
            with in_time(5):
                floors(web)
                many_turns(web)
                steps_of(web, nothing(12))
                alike(web)


class OwnLists(unittest.TestCase):

    def test_what_is_handed_in_stays_as_it_was(self):
        for web in turned_webs(7).values():
            before = told(web)
            row = floors(web)[0][-1][1]
            row_before = list(row)
            many_turns(web)
            alike(web)
            steps_of(web, row)
            check_refused(self, BadRow, lambda: steps_of(web, row + [7]))
            self.assertEqual((before, 7, row_before), (told(web), web.size, row))

    def test_what_is_refused_stays_as_it_was(self):
        web = of_one_colour(3, path(3))
        before = told(web)
        for refusal, row in ((BadRow, [2, 2, 1]), (BadRow, [1, 0]), (NoTurn, [1, 0, 2])):
            row_before = list(row)
            check_refused(self, refusal, lambda: steps_of(web, row))
            self.assertEqual((before, row_before), (told(web), row))

    def test_the_lists_handed_in_may_be_changed(self):
        colours, ties, row = [0, 0, 1, 0], [(1, 2), (0, 1), (0, 2), (1, 3), (0, 3)], [1, 0, 2, 3]
        web = Web(colours, ties)
        before = copied(floors(web)), many_turns(web), alike(web), steps_of(web, row)
        steps = steps_of(web, row)
        colours[0] = 5
        ties.clear()
        row.reverse()
        self.assertEqual(before[3], steps)
        self.assertEqual(before, (floors(web), many_turns(web), alike(web), steps_of(web, [1, 0, 2, 3])))

    def test_told_floors_may_be_changed(self):
        for web in list(turned_webs(7).values()) + [Web([4], [])]:
            before = copied(floors(web))
            mine = floors(web)
            for floor in mine:
                for _, turn in floor:
                    turn.reverse()
                    turn.append(7)
                floor.append(())
            mine.clear()
            self.assertEqual(before, floors(web))

    def test_no_told_turn_is_told_twice_as_the_same_list(self):
        for web in turned_webs(7).values():
            turns = [turn for _ in range(2) for floor in floors(web) for _, turn in floor]
            turns += [step for _ in range(2) for step in steps_of(web, nothing(7))]
            self.assertEqual(len(turns), len({id(turn) for turn in turns}))

    def test_told_steps_may_be_changed(self):
        for web in turned_webs(7).values():
            row = floors(web)[0][-1][1]
            before = [list(step) for step in steps_of(web, row)], copied(floors(web))
            mine = steps_of(web, row)
            for step in mine:
                step.reverse()
                step.append(7)
            mine.clear()
            self.assertEqual(before, (steps_of(web, row), floors(web)))

    def test_the_steps_are_not_the_row_handed_in(self):
        for row in ([0, 1], [1, 0]):
            self.assertFalse(any(step is row for step in steps_of(of_one_colour(2, []), row)))

    def test_told_lists_of_alike_may_be_changed(self):
        for web in list(turned_webs(7).values()) + [Web([4], [])]:
            before = [list(points) for points in alike(web)]
            mine = alike(web)
            for points in mine:
                points.reverse()
                points.append(7)
            mine.reverse()
            mine.append([])
            self.assertEqual(before, alike(web))

    def test_asked_of_another_web_in_between(self):
        for web in turned_webs(8).values():
            row = floors(web)[0][-1][1]
            before = floors(web), many_turns(web), alike(web), steps_of(web, row)
            other = renumbered(web, some_rows(8)[1])
            floors(other), many_turns(other), alike(other), steps_of(other, nothing(8))
            self.assertEqual(before, (floors(web), many_turns(web), alike(web), steps_of(web, row)))

    def test_ties_handed_in_in_another_order(self):
        ties = [(0, 1), (0, 2), (0, 3), (0, 4)]
        web = of_one_colour(5, ties)
        expected = floors(web), alike(web), steps_of(web, [0, 2, 1, 4, 3])
        for order in permutations(ties):
            other = of_one_colour(5, list(order))
            self.assertEqual(expected, (floors(other), alike(other), steps_of(other, [0, 2, 1, 4, 3])))
        for name, web in named_webs(9)[::4]:
            row = floors(web)[0][-1][1]
            expected = floors(web), alike(web), steps_of(web, row)
            for order in (web.ties()[::-1], web.ties()[1:] + web.ties()[:1]):
                other = Web(web.colours(), order)
                with self.subTest(name=name):
                    self.assertEqual(expected, (floors(other), alike(other), steps_of(other, row)))


if __name__ == "__main__":
    unittest.main()
