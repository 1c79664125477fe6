"""Tests of sameweb.notes: point [11], and point [1] where it speaks of texts."""

import re
import unittest
from itertools import product

from sameweb.errors import BadWeb
from sameweb.notes import read, shown
from sameweb.webs import Web, is_same
from tests.samples import all_ties, all_webs, coloured_webs, path, ring, told, turned_webs
from tests.strange import check_refused, strange_things

# Each text with the colours and the ties of its web, worked out by hand.
BY_HAND = [
    ("3:", [3], []),
    ("0:", [0], []),
    ("9:", [9], []),
    ("0 0:", [0, 0], []),
    ("0 0: 0-1", [0, 0], [(0, 1)]),
    ("0 0 1: 0-1 1-2", [0, 0, 1], [(0, 1), (1, 2)]),
    ("2 1 0: 0-1 0-2 1-2", [2, 1, 0], [(0, 1), (0, 2), (1, 2)]),
    ("0 1 2 3 4 5 6 7 8 9 9 0:", [0, 1, 2, 3, 4, 5, 6, 7, 8, 9, 9, 0], []),
    ("0 0 0 0 0 0 0 0 0 0 0 0: 0-9 0-10 2-3 2-11 10-11", [0] * 12, [(0, 9), (0, 10), (2, 3), (2, 11), (10, 11)]),
]


def is_shown_of_some_web(text):
    """Whether the text is what is shown of some web, by the words of points [2] and [11]."""
    number = "(0|[1-9][0-9]*)"
    if re.fullmatch(f"[0-9]( [0-9]){{0,11}}:( {number}-{number})*", text) is None:
        return False
    colours, ties = text.split(":")
    ties = [tuple(map(int, tie.split("-"))) for tie in ties.split()]
    size = len(colours.split())
    return all(a < b < size for a, b in ties) and all(one < other for one, other in zip(ties, ties[1:]))


def many_webs():
    """Webs of many kinds, of 1 to 12 points."""
    webs = [web for size in (1, 2, 3) for web in all_webs(size, (0, 9))] + all_webs(4, (0, 7))[::7]
    for size in (6, 9, 12):
        webs += list(turned_webs(size).values()) + list(coloured_webs(size).values())
    return webs


class Shown(unittest.TestCase):

    def check(self, expected, web):
        text = shown(web)
        self.assertIs(str, text.__class__)
        self.assertEqual(expected, text)

    def test_the_examples_of_the_document(self):
        self.check("0 0 1: 0-1 1-2", Web([0, 0, 1], [(0, 1), (1, 2)]))
        self.check("3:", Web([3], []))

    def test_by_hand(self):
        for expected, colours, ties in BY_HAND:
            self.check(expected, Web(colours, ties))

    def test_the_ties_rise_in_whatever_order_they_were_handed_in(self):
        self.check("0 0 1: 0-1 1-2", Web([0, 0, 1], [(1, 2), (0, 1)]))
        for text, colours, ties in BY_HAND:
            self.check(text, Web(colours, ties[::-1]))

    def test_twelve_points_and_all_ties(self):
        expected = "4 4 4 4 4 4 4 4 4 4 4 4:" + "".join(f" {a}-{b}" for a, b in all_ties(12))
        self.check(expected, Web([4] * 12, all_ties(12)))

    def test_other_webs_are_shown_otherwise(self):
        webs = [web for size in (1, 2, 3) for web in all_webs(size, (0, 1))] + all_webs(4, (0, 1))
        self.assertEqual(len(webs), len({shown(web) for web in webs}))

    def test_by_name(self):
        self.assertEqual("0:", shown(web=Web([0], [])))


class Read(unittest.TestCase):

    def test_the_examples_of_the_document(self):
        self.assertEqual(((0, 0, 1), ((0, 1), (1, 2))), told(read("0 0 1: 0-1 1-2")))
        self.assertEqual(((3,), ()), told(read("3:")))

    def test_by_hand(self):
        for text, colours, ties in BY_HAND:
            web = read(text)
            self.assertIs(Web, web.__class__)
            self.assertEqual((len(colours), colours, ties), (web.size, web.colours(), web.ties()))

    def test_what_is_shown_is_read_as_the_same_web(self):
        for web in many_webs():
            text = shown(web)
            self.assertTrue(is_same(web, read(text)))
            self.assertEqual(text, shown(read(text)))

    def test_points_beside_one_another(self):
        web = read("0 0 0 1: 0-3 1-3 2-3")
        self.assertEqual([[3], [3], [3], [0, 1, 2]], [web.beside(k) for k in range(4)])

    def test_by_name(self):
        self.assertEqual(((0,), ()), told(read(text="0:")))


class Refused(unittest.TestCase):

    def refuse(self, *texts):
        for text in texts:
            with self.subTest(text=text):
                check_refused(self, BadWeb, lambda: read(text))

    def test_the_empty_text_and_blanks(self):
        self.refuse("", " ", "  ", "\n", ":", " :", ": ", "::", "-", ":-")

    def test_a_blank_too_many(self):
        self.refuse(" 3:", "3 :", "3: ", " 3: ", "3:  ", "0  0:", " 0 0:", "0 0 :", "0 0: ")
        self.refuse(" 0 0: 0-1", "0  0: 0-1", "0 0 : 0-1", "0 0:  0-1", "0 0: 0-1 ", "0 0: 0 -1", "0 0: 0- 1",
                    "0 0: 0 - 1", "0 0 0: 0-1  1-2", "0 0 0: 0-1 1-2 ", "0 0 0: 0-1 1-2  ")

    def test_a_blank_too_few(self):
        self.refuse("00:", "0 00:", "0 0:0-1", "0 0 0:0-1 1-2", "0 0 0: 0-11-2", "00: 0-1")

    def test_no_colon(self):
        self.refuse("3", "0", "0 0", "0 0 0-1", "0 0  0-1", "0 0; 0-1", "0 0, 0-1", "0-1", "0 0 1 0-1 1-2")

    def test_two_colons(self):
        self.refuse("3::", "3: :", ":3:", "0:0:", "0 0:: 0-1", "0 0: 0-1:", "0 0: 0-1 :", "0: 0: 0-1", "0 0: : 0-1",
                    "0 0: 0:1")

    def test_a_nought_ahead_of_other_figures(self):
        self.refuse("03:", "00:", "0 01:", "0 0: 00-1", "0 0: 0-01", "0 0: 00-01", "0 0: 0-001", "000 0: 0-1",
                    "0 0 0: 0-1 01-2", "0 0 0 0 0 0 0 0 0 0 0 0: 9-010")

    def test_a_sign_at_a_number(self):
        self.refuse("+3:", "-3:", "_3:", "3_:", "+0:", "-0:", "1_0:", "0 +0:", "0 -0:", "--0:")
        self.refuse("0 0: +0-1", "0 0: 0-+1", "0 0: -0-1", "0 0: 0--1", "0 0: 0-_1", "0 0: 0_-1", "0 0: 0-1_",
                    "0 0: 0+1", "0 0: 0-1-", "0 0 0 0 0 0 0 0 0 0 0 0: 0-1_0", "0 0: -0--1")

    def test_other_blanks_in_the_place_of_a_blank_or_behind_the_text(self):
        for blank in ("\t", "\n", "\r", "\r\n", "\v", "\f", "\x00", "\x1c", "\x1f"):
            self.refuse(f"3:{blank}", f"{blank}3:", f"3{blank}:", f"0{blank}0:", f"0 {blank}0:", f"0 0:{blank}")
            self.refuse(f"0 0:{blank}0-1", f"0 0: 0-1{blank}", f"0{blank}0: 0-1", f"{blank}0 0: 0-1",
                        f"0 0: 0{blank}-1", f"0 0: 0-{blank}1", f"0 0: {blank}0-1", f"0 0 0: 0-1{blank}1-2",
                        f"0 0 0: 0-1 1-2{blank}", f"0 0{blank}: 0-1")

    def test_ties_that_do_not_rise(self):
        self.refuse("0 0 1: 1-2 0-1", "0 0 0: 0-2 0-1", "0 0 0: 0-1 1-2 0-2", "0 0 0: 0-2 1-2 0-1")
        self.refuse("0 0 0 0 0 0 0 0 0 0 0: 0-10 0-9", "0 0 0 0 0 0 0 0 0 0 0 0: 10-11 2-3")

    def test_a_tie_twice(self):
        self.refuse("0 0: 0-1 0-1", "0 0 1: 0-1 0-1 1-2", "0 0 1: 0-1 1-2 1-2", "0 0 1: 0-1 1-2 0-1", "0 0: 0-1 1-0")

    def test_the_greater_point_first(self):
        self.refuse("0 0: 1-0", "0 0 0: 0-1 2-1", "0 0 0: 1-0 1-2", "0 0 0 0 0 0 0 0 0 0 0: 10-9")

    def test_a_tie_of_a_point_and_itself(self):
        self.refuse("0: 0-0", "0 0: 0-0", "0 0: 1-1", "0 0: 0-0 0-1", "0 0: 0-1 1-1")

    def test_a_point_that_is_not_there(self):
        self.refuse("0: 0-1", "0: 1-2", "0 0: 0-2", "0 0: 1-2", "0 0: 2-3", "0 0: 0-10", "0 0: 0-1 1-2")
        self.refuse("0 0 0 0 0 0 0 0 0 0 0 0: 0-12", "0 0 0 0 0 0 0 0 0 0 0 0: 11-12",
                    "0 0 0 0 0 0 0 0 0 0 0 0: 0-" + "9" * 5000)

    def test_no_tie(self):
        self.refuse("0 0: 0", "0 0: 01", "0 0: -", "0 0: 0-", "0 0: -1", "0 0: 0-1-", "0 0: -0-1", "0 0 0: 0-1-2",
                    "0 0: 0 1", "0 0: (0, 1)", "0 0: 0,1", "0 0: 0-1,", "0 0: 0-1, 0-1", "0 0 0: 0-1,1-2",
                    "0 0: 0.0-1", "0 0: 0-1.0")

    def test_a_colour_above_9(self):
        self.refuse("10:", "11:", "12:", "99:", "0 10:", "10 0:", "10 10: 0-1", "0 0 11: 0-1", "9" * 5000 + ":")

    def test_thirteen_colours_and_more(self):
        self.refuse("0 0 0 0 0 0 0 0 0 0 0 0 0:", "0 0 0 0 0 0 0 0 0 0 0 0 0: 0-1", "0 0 0 0 0 0 0 0 0 0 0 0 0: 0-12",
                    "0 " * 5000 + "0:")

    def test_no_colours(self):
        self.refuse(":", ": 0-1", " : 0-1", ":0-1", " 0-1")

    def test_a_letter(self):
        self.refuse("a:", "3:a", "3: a", "a3:", "3a:", "0 a: 0-1", "0 0: 0-a", "0 0: a-1", "0 0: 0-1a", "0 0: a", "3:x",
                    "0 0: x 0-1", "0 0:x 0-1", "0 0:0 0-1", "0x1:", "1e0:", "o:", "l:", "None", "[0]:", "'3:'", '"3:"')

    def test_what_is_no_text(self):
        self.refuse(None, 0, 3, True, False, 3.0, [], ["3:"], ("3:",), {}, {"3:": "3:"}, {"3:"}, b"3:",
                    bytearray(b"3:"), range(3), [3], [[0], []], ([0], []), Web([0], []))

    def test_things_of_any_kind(self):
        for at, thing in enumerate(strange_things()):
            with self.subTest(at=at):
                check_refused(self, BadWeb, lambda: read(thing))
                check_refused(self, BadWeb, lambda: read([thing]))

    def test_all_short_texts(self):
        for length in range(7):
            for signs in product("01 :-", repeat=length):
                self.check_against_the_words("".join(signs))

    def test_texts_with_one_sign_more_or_less_or_another_one(self):
        for text in ("3:", "0 0:", "0 0: 0-1", "0 0 1: 0-1 1-2", "0 9 0 0: 0-3 1-2 1-3",
                     "0 0 0 0 0 0 0 0 0 0 0 0: 0-1 1-10 10-11"):
            for at in range(len(text) + 1):
                self.check_against_the_words(text[:at] + text[at + 1:])
                self.check_against_the_words(text[:at] + text[at:at + 2][::-1] + text[at + 2:])
                for sign in map(chr, range(128)):
                    self.check_against_the_words(text[:at] + sign + text[at:])
                    self.check_against_the_words(text[:at] + sign + text[at + 1:])

    def check_against_the_words(self, text):
        """Checks that the text is read just where it is one that is shown of some web."""
        if is_shown_of_some_web(text):
            self.assertEqual(text, shown(read(text)))
        else:
            check_refused(self, BadWeb, lambda: read(text))


class OwnLists(unittest.TestCase):

    def test_what_is_handed_in_stays_as_it_was(self):
        for web in (Web([2, 0, 1], [(1, 2), (0, 1)]), Web([0], []), Web([0] * 12, ring(12))):
            before = told(web)
            shown(web)
            self.assertEqual(before, told(web))

    def test_what_was_handed_in_may_be_changed(self):
        colours, ties = [2, 0, 1], [(1, 2), (0, 1)]
        web = Web(colours, ties)
        colours.clear()
        ties.clear()
        self.assertEqual("2 0 1: 0-1 1-2", shown(web))

    def test_lists_told_by_the_web_that_is_read_may_be_changed(self):
        text = "2 0 1: 0-1 1-2"
        web = read(text)
        for ask in (web.colours, web.ties, lambda: web.beside(1)):
            ask().clear()
        self.assertEqual(text, shown(web))
        self.assertEqual(((2, 0, 1), ((0, 1), (1, 2))), told(read(text)))

    def test_asked_again_it_is_told_again_the_same(self):
        for text, colours, ties in BY_HAND:
            self.assertIsNot(read(text), read(text))
            for _ in range(2):
                self.assertEqual(text, shown(Web(colours, ties)))
                self.assertEqual((tuple(colours), tuple(ties)), told(read(text)))
            shown(Web([0] * 5, path(5)))
            check_refused(self, BadWeb, lambda: read(text + " "))
            self.assertEqual((tuple(colours), tuple(ties)), told(read(text)))


if __name__ == "__main__":
    unittest.main()
