"""Promises 11 and 2: an unseen heavy, or leap, told of by how much faster the cart becomes."""

import copy
import unittest
from fractions import Fraction

from leapcart.carts import speeds
from leapcart.unseen import heavy_by, leap_by
from oracle import ANYTHING, SEVEN, SMALL, frac, nested, pair, random_cases

LITTLE = Fraction(1, 10**39)


def with_heavy(folk, name, heavy):
    return tuple((one[0], heavy, one[2]) if one[0] == name else one for one in folk)


def with_leap(folk, name, leap):
    return tuple((one[0], one[1], leap) if one[0] == name else one for one in folk)


def gain(cart, folk, name):
    """By how much the cart becomes faster when this one leaps back, heavies and leaps being any numbers."""
    heavy, leap = {one[0]: one[1:] for one in folk}[name]
    return Fraction(heavy) * leap / (cart + sum(one[1] for one in folk))


class Unseen(unittest.TestCase):
    def test_heavy(self):
        # x times 2 by 1 + x is 1.
        self.assertEqual(heavy_by(1, (("a", 9, 2),), "a", (1, 1)), (1, 1))
        self.assertEqual(heavy_by(100, SMALL, "a", (1, 2)), (44, 1))
        self.assertEqual(heavy_by(100, SMALL, "c", (1, 1)), (60, 1))
        self.assertEqual(heavy_by(100, SMALL, "b", (2, 7)), (400, 19))

    def test_leap(self):
        self.assertEqual(leap_by(1, (("a", 1, 9),), "a", (1, 1)), (2, 1))
        self.assertEqual(leap_by(100, SMALL, "a", (1, 2)), (7, 3))
        self.assertEqual(leap_by(100, SMALL, "c", (1, 7)), (1, 1))
        # No leap is too fast.
        self.assertEqual(leap_by(100, SMALL, "c", (1000, 1)), (7000, 1))

    def test_a_gain_less_than_as_much_as_and_more_than_the_leap(self):
        for cart in (1, 1000):
            for folk in ((("a", 5, 1),), (("a", 200, 100),), SMALL, SEVEN):
                for name, heavy, leap in folk:
                    self.assertIsNone(heavy_by(cart, folk, name, (leap, 1)))
                    self.assertIsNone(heavy_by(cart, folk, name, pair(leap + LITTLE)))
                    self.assertIsNone(heavy_by(cart, folk, name, (leap + 1, 1)))
                    self.assertIsNone(heavy_by(cart, folk, name, (10**39, 1)))
                    told = heavy_by(cart, folk, name, pair(leap - LITTLE))
                    self.assertEqual(gain(cart, with_heavy(folk, name, frac(told)), name), leap - LITTLE)

    def test_what_is_told_makes_it_just_so_much_faster(self):
        for cart, folk in random_cases(60, 7, seed=31):
            for name, heavy, leap in folk:
                for more in (LITTLE, Fraction(1, 3), Fraction(leap, 2), Fraction(10 * leap - 1, 10), Fraction(200)):
                    told = leap_by(cart, folk, name, pair(more))
                    self.assertEqual(gain(cart, with_leap(folk, name, frac(told)), name), more)
                    told = heavy_by(cart, folk, name, pair(more))
                    self.assertEqual(told is None, more >= leap)
                    if told is not None:
                        self.assertGreater(frac(told), 0)
                        self.assertEqual(pair(frac(told)), told)
                        self.assertEqual(gain(cart, with_heavy(folk, name, frac(told)), name), more)

    def test_what_was_seen_is_found_again(self):
        for cart, folk in random_cases(40, 7, seed=32):
            for name, heavy, leap in folk:
                more = speeds(cart, folk, (0, 1), [((name, -1),)])[-1]
                self.assertEqual(heavy_by(cart, folk, name, more), (heavy, 1))
                self.assertEqual(leap_by(cart, folk, name, more), (leap, 1))

    def test_what_folk_have_there_is_not_looked_at(self):
        for thing in ANYTHING + (nested(17), (3, 2), 10**50, -5, "?"):
            for name, heavy, leap in SMALL:
                folk = with_heavy(SMALL, name, thing)
                before = copy.deepcopy(folk)
                self.assertEqual(heavy_by(100, folk, name, (1, 2)), heavy_by(100, SMALL, name, (1, 2)))
                self.assertEqual(folk, before)
                folk = with_leap(SMALL, name, thing)
                before = copy.deepcopy(folk)
                self.assertEqual(leap_by(100, folk, name, (1, 2)), leap_by(100, SMALL, name, (1, 2)))
                self.assertEqual(folk, before)

    def test_what_is_looked_at(self):
        folk = with_leap(SMALL, "a", 4)
        self.assertNotEqual(heavy_by(100, folk, "a", (1, 2)), heavy_by(100, SMALL, "a", (1, 2)))
        self.assertEqual(heavy_by(100, folk, "b", (1, 2)), heavy_by(100, SMALL, "b", (1, 2)))
        folk = with_heavy(SMALL, "a", 61)
        for name in "abc":
            self.assertNotEqual(leap_by(100, folk, name, (1, 2)), leap_by(100, SMALL, name, (1, 2)))
        self.assertNotEqual(heavy_by(101, SMALL, "a", (1, 2)), heavy_by(100, SMALL, "a", (1, 2)))

    def test_kinds_and_names(self):
        for told in (heavy_by(cart=100, folk=SMALL, name="a", more=(1, 2)),
                     leap_by(cart=100, folk=SMALL, name="a", more=(1, 2))):
            self.assertEqual([type(told), type(told[0]), type(told[1])], [tuple, int, int])

    def test_somewhat_beyond_the_bounds(self):
        folk = tuple((name, 300, 200) for name in "abcdefghi")
        for more in ((1, 2), (0, 1), (-1, 2), (10**60, 7)):
            heavy_by(2000, folk, "a", more)
            leap_by(2000, folk, "a", more)


if __name__ == "__main__":
    unittest.main()
