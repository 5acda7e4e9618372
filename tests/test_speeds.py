"""Promises 5 and 2: the cart's speeds behind leaps, and the speeds of those who leapt."""

import copy
import unittest
from fractions import Fraction

from leapcart.carts import leapers, speeds
from oracle import SEVEN, SMALL, any_leaps, cart_speeds, frac, own_speeds, pair, random_cases, random_leaps

STARTS = ((0, 1), (1, 1), (-7, 3), (10**40 - 1, 10**39), (5, 10**39 + 1))


class Speeds(unittest.TestCase):
    def check(self, cart, folk, speed, leaps):
        before = copy.deepcopy((cart, folk, speed, leaps))
        wanted = [pair(one) for one in cart_speeds(cart, folk, frac(speed), leaps)]
        own = own_speeds(cart, folk, frac(speed), leaps)
        self.assertEqual(speeds(cart, folk, speed, leaps), wanted)
        self.assertEqual(leapers(cart, folk, speed, leaps), [(name, pair(own[name])) for name in sorted(own)])
        self.assertEqual((cart, folk, speed, leaps), before)

    def test_one_leap(self):
        folk = (("a", 1, 2),)
        self.assertEqual(speeds(1, folk, (0, 1), [(("a", -1),)]), [(1, 1)])
        self.assertEqual(leapers(1, folk, (0, 1), [(("a", -1),)]), [("a", (-1, 1))])
        self.assertEqual(speeds(1, folk, (0, 1), [(("a", 1),)]), [(-1, 1)])
        self.assertEqual(leapers(1, folk, (0, 1), [(("a", 1),)]), [("a", (1, 1))])

    def test_one_by_one_and_at_once(self):
        # 100 + 60 + 80 + 40 is 280; behind a's leap 220 are left, behind b's 140.
        singles = [(("a", -1),), (("b", -1),), (("c", 1),)]
        self.assertEqual(speeds(100, SMALL, (1, 2), singles), [(8, 7), (172, 77), (62, 77)])
        self.assertEqual(leapers(100, SMALL, (1, 2), singles), [("a", (-13, 7)), ("b", (-59, 77)), ("c", (447, 77))])
        at_once = [(("a", -1), ("b", -1), ("c", 1))]
        self.assertEqual(speeds(100, SMALL, (1, 2), at_once), [(9, 7)])
        self.assertEqual(leapers(100, SMALL, (1, 2), at_once), [("a", (-12, 7)), ("b", (-12, 7)), ("c", (44, 7))])

    def test_leapers_rise_by_names_not_by_turns(self):
        told = leapers(100, SMALL, (0, 1), [(("c", -1),), (("a", 1), ("b", -1))])
        self.assertEqual([name for name, speed in told], ["a", "b", "c"])

    def test_no_leaps(self):
        for speed in STARTS:
            self.assertEqual(speeds(5, SMALL, speed, []), [])
            self.assertEqual(leapers(5, SMALL, speed, []), [])

    def test_rest_is_told_as_nought(self):
        self.assertEqual(speeds(1, (("a", 1, 2),), (-1, 1), [(("a", -1),)]), [(0, 1)])
        self.assertEqual(leapers(1, (("a", 1, 2),), (1, 1), [(("a", -1),)]), [("a", (0, 1))])

    def test_all_leaps_of_three(self):
        for leaps in any_leaps(SMALL):
            self.check(100, SMALL, (-3, 7), leaps)

    def test_edges(self):
        for cart in (1, 1000):
            for folk in ((("a", 1, 1),), (("abcdefgh", 200, 100),), SEVEN):
                for way in (1, -1):
                    names = [one[0] for one in folk]
                    for speed in STARTS:
                        self.check(cart, folk, speed, [((name, way),) for name in names])
                        self.check(cart, folk, speed, [tuple((name, way) for name in names)])

    def test_many(self):
        for at, (cart, folk) in enumerate(random_cases(300, 7)):
            self.check(cart, folk, STARTS[at % len(STARTS)], random_leaps(folk, at))

    def test_told_speeds_may_be_handed_in_again(self):
        speed = (10**40 - 1, 10**40 - 3)
        for turn in range(30):
            self.check(999, SEVEN, speed, [(("b", -1),), (("c", 1), ("f", -1))])
            speed = speeds(999, SEVEN, speed, [(("b", -1),), (("c", 1), ("f", -1))])[-1]

    def test_lists_are_the_askers_own(self):
        leaps = [(("a", -1),), (("b", 1),)]
        for asked in (speeds, leapers):
            first = asked(100, SMALL, (0, 1), leaps)
            kept = list(first)
            second = asked(100, SMALL, (0, 1), leaps)
            self.assertEqual(first, second)
            self.assertIsNot(first, second)
            first.clear()
            self.assertEqual(second, kept)
            self.assertEqual(asked(100, SMALL, (0, 1), leaps), kept)

    def test_kinds_and_names(self):
        leaps = [(("a", -1), ("b", 1))]
        told = speeds(cart=100, folk=SMALL, speed=(0, 1), leaps=leaps)
        self.assertIs(type(told), list)
        self.assertIs(type(told[0]), tuple)
        self.assertEqual([type(part) for part in told[0]], [int, int])
        told = leapers(cart=100, folk=SMALL, speed=(0, 1), leaps=leaps)
        self.assertIs(type(told), list)
        self.assertEqual([type(one) for one in told], [tuple, tuple])

    def test_somewhat_beyond_the_bounds(self):
        folk = tuple((name, 500, 300) for name in "abcdefghij")
        leaps = [((name, -1),) for name in "abcdefghij"]
        self.check(5000, folk, (0, 1), leaps)

    def test_the_balance_holds(self):
        for at, (cart, folk) in enumerate(random_cases(100, 7, seed=2)):
            leaps = random_leaps(folk, at)
            speed = Fraction(at, 7)
            weight = {name: heavy for name, heavy, leap in folk}
            told = dict(leapers(cart, folk, pair(speed), leaps))
            last = frac(([pair(speed)] + speeds(cart, folk, pair(speed), leaps))[-1])
            balance = cart * last
            for name in weight:
                balance += weight[name] * (frac(told[name]) if name in told else last)
            self.assertEqual(balance, (cart + sum(weight.values())) * speed)


if __name__ == "__main__":
    unittest.main()
