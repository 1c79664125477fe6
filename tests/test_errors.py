"""Tests of sameweb.errors."""

import unittest

from sameweb import errors
from sameweb.errors import BadCells, BadRow, BadWeb, NoPoint, NoTurn, NoWeb, WebError

REFUSALS = [BadWeb, BadRow, BadCells, NoPoint, NoTurn, NoWeb]


class Errors(unittest.TestCase):

    def test_web_error_is_straight_under_value_error(self):
        self.assertEqual((ValueError,), WebError.__bases__)

    def test_each_refusal_is_straight_under_web_error(self):
        for refusal in REFUSALS:
            with self.subTest(refusal=refusal.__name__):
                self.assertEqual((WebError,), refusal.__bases__)

    def test_no_refusal_is_under_another_one(self):
        for one in REFUSALS:
            for other in REFUSALS:
                with self.subTest(one=one.__name__, other=other.__name__):
                    self.assertEqual(one is other, issubclass(one, other))

    def test_each_has_its_own_name(self):
        for refusal in [WebError] + REFUSALS:
            with self.subTest(refusal=refusal.__name__):
                self.assertIs(refusal, getattr(errors, refusal.__name__))

    def test_each_is_caught_as_a_web_error_and_as_a_value_error(self):
        for refusal in REFUSALS:
            for caught in (refusal, WebError, ValueError):
                with self.subTest(refusal=refusal.__name__, caught=caught.__name__):
                    with self.assertRaises(caught):
                        raise refusal("no")


if __name__ == "__main__":
    unittest.main()
