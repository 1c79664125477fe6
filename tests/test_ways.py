"""Tests of sameweb.ways: point [4], and point [1] where it speaks of ways."""

import unittest
from itertools import permutations

from sameweb.cells import first_cells, parted
from sameweb.rows import is_row
from sameweb.ways import leading
from sameweb.webs import Web, is_same, renumbered
from tests.samples import (
    all_ties, all_webs, coloured_webs, in_time, kinds, path, ring, rings, shifted, sides, some_rows, told, turned_webs,
    webs_of_rings)

RING_OF_SIX = Web([0] * 6, ring(6))
TWO_RINGS_OF_THREE = Web([0] * 6, rings(3, 3))


def without(ties, missing):
    """The ties but for those that are missing."""
    return [pair for pair in ties if pair not in missing]


class Ways(unittest.TestCase):

    def check_leads(self, one, other):
        """Checks that a row is told, and that it leads there; gives it back."""
        with in_time(10):
            row = leading(one, other)
        self.assertIs(list, row.__class__)
        self.assertTrue(is_row(row, one.size))
        self.assertTrue(is_same(renumbered(one, row), other))
        return row

    def check_none(self, one, other):
        """Checks that no row is told, both ways round."""
        with in_time(10):
            self.assertIsNone(leading(one, other))
            self.assertIsNone(leading(other, one))

    def test_one_point(self):
        self.assertEqual([0], leading(Web([3], []), Web([3], [])))
        self.check_none(Web([3], []), Web([4], []))

    def test_where_just_one_row_leads(self):
        one = Web([0, 1, 2], [(0, 1)])
        self.assertEqual([2, 0, 1], leading(one, Web([1, 2, 0], [(0, 2)])))
        self.assertEqual([1, 2, 0], leading(Web([1, 2, 0], [(0, 2)]), one))
        # The direction is that of the point [3]: the point k gets the number row[k].
        self.assertEqual([1, 2, 3, 0], leading(Web([0, 1, 2, 3], path(4)), Web([3, 0, 1, 2], [(0, 3), (1, 2), (2, 3)])))
        tree = Web([0] * 7, path(6) + [(2, 6)])
        for row in list(permutations(range(7)))[::19]:
            self.assertEqual(list(row), leading(tree, renumbered(tree, list(row))))

    def test_where_one_of_two_rows_leads(self):
        self.assertIn(leading(Web([0] * 3, [(0, 1), (1, 2)]), Web([0] * 3, [(0, 1), (0, 2)])), ([1, 0, 2], [2, 0, 1]))
        self.assertIn(leading(Web([0, 0, 1], []), Web([1, 0, 0], [])), ([1, 2, 0], [2, 1, 0]))

    def test_a_web_and_itself(self):
        for size in (1, 2, 3, 4):
            for web in all_webs(size, (0, 1)):
                self.check_leads(web, web)
                self.check_leads(web, Web(web.colours(), web.ties()))
        for size in (6, 7, 8, 9, 12):
            for name, web in list(turned_webs(size).items()) + list(coloured_webs(size).items()):
                with self.subTest(size=size, name=name):
                    self.check_leads(web, web)

    def test_a_web_and_the_same_renumbered(self):
        for size in (6, 7, 8, 9, 12):
            for name, web in turned_webs(size).items():
                for row in some_rows(size):
                    with self.subTest(size=size, name=name, row=row):
                        other = renumbered(web, row)
                        self.check_leads(web, other)
                        self.check_leads(other, web)

    def test_a_web_of_colours_and_the_same_renumbered(self):
        for size in (6, 9, 12):
            for name, web in coloured_webs(size).items():
                for row in some_rows(size)[1:]:
                    with self.subTest(size=size, name=name, row=row):
                        self.check_leads(web, renumbered(web, row))

    def test_of_two_webs_one_behind_the_other(self):
        for name, web in turned_webs(12).items():
            for one, other in zip(some_rows(12), some_rows(12)[1:]):
                with self.subTest(name=name, one=one, other=other):
                    self.check_leads(renumbered(web, one), renumbered(web, other))

    def test_another_size(self):
        for size in range(1, 12):
            self.check_none(Web([0] * size, []), Web([0] * (size + 1), []))
            self.check_none(Web([0] * size, path(size)), Web([0] * (size + 1), path(size)))
            self.check_none(Web([0] * size, all_ties(size)), Web([0] * 12, all_ties(12)))
        self.check_none(Web([0, 1], []), Web([0, 0, 1], []))

    def test_one_tie_more_or_less(self):
        for size in (2, 3, 6, 12):
            self.check_none(Web([0] * size, all_ties(size)), Web([0] * size, all_ties(size)[1:]))
            self.check_none(Web([0] * size, path(size)), Web([0] * size, path(size)[1:]))
            self.check_none(Web([0] * size, []), Web([0] * size, [(0, 1)]))
        for size in (6, 7, 9, 12):
            for name, web in turned_webs(size).items():
                for missing in web.ties()[:3]:
                    with self.subTest(size=size, name=name, missing=missing):
                        self.check_none(web, Web(web.colours(), without(web.ties(), [missing])))

    def test_one_colour_another(self):
        self.check_none(Web([0, 0], [(0, 1)]), Web([0, 1], [(0, 1)]))
        self.check_none(Web([0, 0], [(0, 1)]), Web([1, 1], [(0, 1)]))
        self.check_none(Web([0, 1], [(0, 1)]), Web([0, 2], [(0, 1)]))
        self.check_none(Web([0, 1, 1], []), Web([0, 0, 1], []))
        for size in (6, 7, 9, 12):
            for name, web in list(turned_webs(size).items()) + list(coloured_webs(size).items()):
                for at in (0, 2, size - 1):
                    colours = web.colours()
                    colours[at] = (colours[at] + 1) % 10
                    with self.subTest(size=size, name=name, at=at):
                        self.check_none(web, Web(colours, web.ties()))

    def test_the_same_counts_of_colours_and_ties_but_other_webs(self):
        self.check_none(Web([0] * 4, path(4)), Web([0] * 4, sides(1, 3)))
        self.check_none(Web([0] * 4, path(4)), Web([0] * 4, ring(3)))
        self.check_none(Web([0] * 4, [(0, 1), (2, 3)]), Web([0] * 4, [(0, 1), (1, 2)]))
        self.check_none(Web([0, 0, 1], [(0, 1)]), Web([0, 0, 1], [(1, 2)]))
        self.check_none(Web([0, 1, 0], path(3)), Web([1, 0, 0], path(3)))
        self.check_none(Web([0, 0, 1, 1], ring(4)), Web([0, 1, 0, 1], ring(4)))
        self.check_none(Web([0, 1] * 6, ring(12)), Web([0, 0, 1, 1] * 3, ring(12)))

    def test_a_ring_of_six_points_and_two_rings_of_three(self):
        cells = [first_cells(web) for web in (RING_OF_SIX, TWO_RINGS_OF_THREE)]
        self.assertEqual(cells[0], cells[1])
        self.assertEqual(parted(RING_OF_SIX, cells[0]), parted(TWO_RINGS_OF_THREE, cells[0]))
        self.check_none(RING_OF_SIX, TWO_RINGS_OF_THREE)
        for row in some_rows(6):
            self.check_none(renumbered(RING_OF_SIX, row), TWO_RINGS_OF_THREE)
            self.check_none(RING_OF_SIX, renumbered(TWO_RINGS_OF_THREE, row))

    def test_webs_whose_points_all_have_like_counts_but_that_are_not_alike(self):
        webs = webs_of_rings()
        ladder = path(6) + shifted(path(6), 6) + [(k, k + 6) for k in range(6)]
        webs += [Web([0] * 12, ladder + ends) for ends in ([(0, 5), (6, 11)], [(0, 11), (5, 6)])]
        webs += [Web([0] * 12, sides(3, 3) + shifted(sides(3, 3), 6)),
                 Web([0] * 12, all_ties(4) + shifted(all_ties(4), 4) + shifted(all_ties(4), 8))]
        for at, one in enumerate(webs):
            for at_other, other in enumerate(webs):
                with self.subTest(one=at, other=at_other):
                    if at == at_other:
                        self.check_leads(one, renumbered(other, some_rows(12)[-1]))
                    else:
                        self.check_none(one, other)

    def test_against_a_trial_of_all_rows(self):
        for size, colours in ((1, (0, 1, 9)), (2, (0, 1, 2)), (3, (0, 1, 2)), (4, (0, 1)), (5, (0,))):
            lists = kinds(all_webs(size, colours))
            firsts = [webs[0] for webs in lists]
            for one in firsts:
                for other in firsts:
                    if one is not other:
                        self.assertIsNone(leading(one, other))
            for webs in lists:
                for web in webs:
                    self.check_leads(web, webs[0])
                    self.check_leads(webs[-1], web)

    def test_each_web_of_four_points_with_each(self):
        kind_of = {}
        webs = all_webs(4, (0,))
        for at, alike in enumerate(kinds(webs)):
            kind_of.update({told(web): at for web in alike})
        self.assertEqual(11, len(set(kind_of.values())))
        for one in webs:
            for other in webs:
                self.assertEqual(kind_of[told(one)] == kind_of[told(other)], leading(one, other) is not None)

    def test_by_name(self):
        self.assertEqual([1, 0], leading(one=Web([0, 1], []), other=Web([1, 0], [])))


class InTime(unittest.TestCase):

    def test_webs_with_many_turns(self):
        for size in (7, 8, 9, 12):
            for name, web in turned_webs(size).items():
                with self.subTest(size=size, name=name), in_time(10):
                    self.assertIsNotNone(leading(web, renumbered(web, some_rows(size)[-1])))

    def test_webs_with_many_turns_that_are_not_alike(self):
        for size in (7, 8, 9, 12):
            for name, web in turned_webs(size).items():
                for other_name, other in turned_webs(size).items():
                    if len(web.ties()) == len(other.ties()):
                        with self.subTest(size=size, name=name, other=other_name), in_time(10):
                            leading(web, other)


class OwnLists(unittest.TestCase):

    def test_what_is_handed_in_stays_as_it_was(self):
        one = Web([1, 0, 0], [(1, 2), (0, 1)])
        for other in (one, Web([0, 0, 1], [(0, 1), (0, 2)]), Web([0, 0, 1], [(0, 1)]), Web([0], [])):
            before = told(one), told(other)
            leading(one, other)
            self.assertEqual(before, (told(one), told(other)))

    def test_what_is_told_may_be_changed(self):
        for web in turned_webs(7).values():
            other = renumbered(web, some_rows(7)[-1])
            for ask in (lambda: leading(web, other), lambda: leading(web, web)):
                before = list(ask())
                mine = ask()
                mine.reverse()
                mine.append(7)
                self.assertEqual(before, ask())

    def test_asked_of_another_web_in_between(self):
        for web in turned_webs(8).values():
            other = renumbered(web, some_rows(8)[1])
            before = leading(web, other)
            leading(other, web)
            leading(RING_OF_SIX, TWO_RINGS_OF_THREE)
            self.assertEqual(before, leading(web, other))

    def test_ties_handed_in_in_another_order(self):
        for web in list(turned_webs(9).values()) + list(coloured_webs(9).values()):
            other = renumbered(web, some_rows(9)[2])
            before = leading(web, other)
            self.assertEqual(before, leading(Web(web.colours(), web.ties()[::-1]), other))
            self.assertEqual(before, leading(web, Web(other.colours(), other.ties()[1:] + other.ties()[:1])))


if __name__ == "__main__":
    unittest.main()
