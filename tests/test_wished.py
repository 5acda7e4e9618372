"""Promises 9, 10 and 2: the fewest folk for a wished speed, and leaps that bring the cart to rest."""

import copy
import unittest
from fractions import Fraction
from itertools import combinations, permutations, product
from random import Random

from leapcart.carts import are_leaps, speeds
from leapcart.errors import AskedError, TooMany
from leapcart.fastest import greatest
from leapcart.wished import fewest_for, to_rest
from oracle import SEVEN, SMALL, back, cart_speeds, frac, pair, random_cases

LITTLE = Fraction(1, 10**30)


def best_of(cart, folk, names):
    """The greatest speed by leaps back of just these, by looking at all their orders."""
    if not names:
        return Fraction(0)
    return max(cart_speeds(cart, folk, Fraction(0), back(order))[-1] for order in permutations(names))


def best_by_lot(cart, folk):
    """By lot, fewest first and of as few the first first, the greatest speed by leaps back of just these."""
    names = [name for name, heavy, leap in folk]
    return {
        lot: best_of(cart, folk, lot)
        for many in range(1, len(names) + 1) for lot in combinations(names, many)
    }


def fewest(best, speed):
    enough = [lot for lot in best if best[lot] >= speed]
    return enough[0] if enough else None


def all_singles(folk, many):
    """All lists of so many leaps one by one, in their order as lists."""
    names = [name for name, heavy, leap in folk]
    found = [
        [((name, way),) for name, way in zip(order, ways)]
        for order in permutations(names, many) for ways in product((-1, 1), repeat=many)
    ]
    return sorted(found)


def rests(cart, folk, speed):
    """The fewest leaps, of as few the first, behind which the cart rests, by looking at all."""
    if speed == 0:
        return []
    for many in range(1, len(folk) + 1):
        for leaps in all_singles(folk, many):
            if cart_speeds(cart, folk, speed, leaps)[-1] == 0:
                return leaps
    return None


class Fewest(unittest.TestCase):
    def check(self, cart, folk, speed, best):
        before = copy.deepcopy((cart, folk))
        self.assertEqual(fewest_for(cart, folk, pair(speed)), fewest(best, speed), (cart, folk, speed))
        self.assertEqual((cart, folk), before)

    def check_around(self, cart, folk, some):
        """Just reached, a little below and a little above what each of some lots comes to."""
        best = best_by_lot(cart, folk)
        for lot in some(list(best)):
            for speed in (best[lot] - LITTLE, best[lot], best[lot] + LITTLE):
                self.check(cart, folk, speed, best)

    def test_one(self):
        folk = (("a", 1, 2),)
        self.assertEqual(fewest_for(1, folk, (1, 1)), ("a",))
        self.assertEqual(fewest_for(1, folk, (1, 10**39)), ("a",))
        self.assertEqual(fewest_for(1, folk, (10**39 - 1, 10**39)), ("a",))
        self.assertIsNone(fewest_for(1, folk, (10**39 + 1, 10**39)))
        self.assertIsNone(fewest_for(1, folk, (10**39, 1)))

    def test_others_stay_and_are_driven_too(self):
        # With b staying a drives the cart by 1/4 only, though by 1/2 were b not there.
        folk = (("a", 1, 1), ("b", 2, 1))
        self.assertEqual(fewest_for(1, folk, (1, 4)), ("a",))
        self.assertEqual(fewest_for(1, folk, (1, 3)), ("b",))
        self.assertEqual(fewest_for(1, folk, (1, 2)), ("b",))
        self.assertEqual(fewest_for(1, folk, (51, 100)), ("a", "b"))
        self.assertEqual(fewest_for(1, folk, (1, 1)), ("a", "b"))
        self.assertIsNone(fewest_for(1, folk, (101, 100)))

    def test_of_as_few_the_first(self):
        alike = tuple((name, 7, 9) for name in "abcdefg")
        for many in range(1, 8):
            reached = cart_speeds(5, alike, Fraction(0), back("abcdefg"[:many]))[-1]
            self.assertEqual(fewest_for(5, alike, pair(reached)), tuple("abcdefg"[:many]))
        # b and c come to it, a and d do not.
        folk = (("a", 1, 1), ("b", 50, 9), ("c", 50, 9), ("d", 1, 1))
        reached = best_of(10, folk, ("b", "c"))
        self.assertEqual(fewest_for(10, folk, pair(reached)), ("b", "c"))
        self.assertEqual(fewest_for(10, folk, pair(best_of(10, folk, ("b",)))), ("b",))

    def test_the_names_rise_though_the_best_order_does_not(self):
        self.assertEqual(fewest_for(100, SMALL, greatest(100, SMALL)), ("a", "b", "c"))

    def test_around_every_lot(self):
        cases = list(random_cases(25, 4, seed=21)) + [(1, SEVEN[:5]), (1000, SEVEN[:5]), (100, SMALL)]
        for cart, folk in cases:
            self.check_around(cart, folk, lambda lots: lots)

    def test_seven(self):
        for cart in (1, 1000):
            self.check_around(cart, SEVEN, lambda lots: lots[::9] + lots[-1:])

    def test_around_the_greatest(self):
        for cart, folk in random_cases(30, 7, seed=22):
            most = frac(greatest(cart, folk))
            everybody = tuple(one[0] for one in folk)
            self.assertIsNone(fewest_for(cart, folk, pair(most + LITTLE)))
            told = fewest_for(cart, folk, pair(most))
            self.assertEqual(told, everybody)
            self.assertIsNotNone(fewest_for(cart, folk, pair(most - LITTLE)))

    def test_a_little_speed_takes_one(self):
        for cart, folk in random_cases(14, 7, seed=23):
            self.assertEqual(fewest_for(cart, folk, (1, 10**39)), (folk[0][0],))

    def test_somewhat_beyond_the_bounds(self):
        folk = tuple((name, 300, 200) for name in "abcdefgh")
        self.assertEqual(fewest_for(2000, folk, greatest(2000, folk)), tuple("abcdefgh"))
        fewest_for(2000, folk, (0, 1))
        fewest_for(2000, folk, (-1, 1))
        fewest_for(0, folk, (1, 1))

    def test_kinds_and_names(self):
        self.assertIs(type(fewest_for(cart=100, folk=SMALL, speed=(1, 2))), tuple)
        self.assertEqual(fewest_for(100, SMALL, (1, 2)), fewest_for(100, SMALL, (1, 2)))


class Rest(unittest.TestCase):
    def check(self, cart, folk, speed):
        before = copy.deepcopy((cart, folk))
        told = to_rest(cart, folk, pair(speed))
        self.assertEqual(told, rests(cart, folk, speed), (cart, folk, speed))
        self.assertEqual((cart, folk), before)
        return told

    def check_reached(self, chance, cart, folk, many):
        """From a speed that so many leaps, by chance, bring to rest."""
        order = chance.sample([one[0] for one in folk], many)
        leaps = [((name, chance.choice((1, -1))),) for name in order]
        speed = -cart_speeds(cart, folk, Fraction(0), leaps)[-1]
        told = self.check(cart, folk, speed)
        self.assertIsNotNone(told)
        if told:
            self.assertTrue(are_leaps(folk, told))
            self.assertEqual(speeds(cart, folk, pair(speed), told)[-1], (0, 1))

    def test_one_both_ways(self):
        folk = (("a", 1, 2),)
        self.assertEqual(to_rest(1, folk, (1, 1)), [(("a", 1),)])
        self.assertEqual(to_rest(1, folk, (-1, 1)), [(("a", -1),)])
        for speed in ((1, 2), (2, 1), (-2, 1), (10**39 + 1, 10**39), (1, 10**39)):
            self.assertIsNone(to_rest(1, folk, speed))

    def test_it_rests(self):
        for folk in ((("a", 1, 2),), SMALL, SEVEN[:5]):
            self.assertEqual(to_rest(7, folk, (0, 1)), [])

    def test_two(self):
        folk = (("a", 1, 1), ("b", 2, 1))
        # b ahead takes 1/2, then a ahead takes 1/2; a ahead takes 1/4, then b ahead 2/3.
        self.assertEqual(to_rest(1, folk, (1, 1)), [(("b", 1),), (("a", 1),)])
        self.assertEqual(to_rest(1, folk, (11, 12)), [(("a", 1),), (("b", 1),)])
        self.assertEqual(to_rest(1, folk, (5, 12)), [(("a", -1),), (("b", 1),)])
        self.assertEqual(to_rest(1, folk, (-5, 12)), [(("a", 1),), (("b", -1),)])
        self.assertEqual(to_rest(1, folk, (1, 2)), [(("b", 1),)])

    def test_fewer_go_ahead_of_first(self):
        # a and b do it too, by 1/4 and 3/3, and stand first as a list; c does it alone, by 5/4.
        folk = (("a", 1, 1), ("b", 1, 3), ("c", 1, 5))
        self.assertEqual(speeds(1, folk, (5, 4), [(("a", 1),), (("b", 1),)])[-1], (0, 1))
        self.assertEqual(self.check(1, folk, Fraction(5, 4)), [(("c", 1),)])

    def test_of_as_few_the_first(self):
        alike = tuple((name, 7, 9) for name in "abcde")
        for many in range(1, 6):
            speed = cart_speeds(5, alike, Fraction(0), back("abcde"[:many]))[-1]
            self.assertEqual(to_rest(5, alike, pair(speed)), [((name, 1),) for name in "abcde"[:many]])
        # The leaps a back, b ahead and a ahead, b back are both there: back goes first.
        folk = (("a", 1, 3), ("b", 1, 3), ("c", 1, 3))
        for leaps in all_singles(folk, 2) + all_singles(folk, 3):
            self.check(1, folk, -cart_speeds(1, folk, Fraction(0), leaps)[-1])

    def test_all_speeds_of_small_folk(self):
        for cart, folk in ((1, (("a", 1, 1), ("b", 1, 2), ("c", 2, 1))), (100, SMALL)):
            for top in range(-12, 13):
                for bottom in (1, 2, 3, 4, 5, 12, 28):
                    self.check(cart, folk, Fraction(top, bottom))

    def test_reached_by_chance(self):
        chance = Random(24)
        for cart, folk in random_cases(60, 4, seed=25):
            self.check_reached(chance, cart, folk, chance.randint(1, len(folk)))
        for cart in (1, 1000):
            for many in range(1, 6):
                self.check_reached(chance, cart, SEVEN[:5], many)

    def test_small_numbers_by_chance(self):
        # Small numbers bring many lists of leaps to the same speed.
        chance = Random(26)
        for at in range(40):
            folk = tuple((name, chance.randint(1, 3), chance.randint(1, 3)) for name in "abcd"[:1 + at % 4])
            self.check_reached(chance, chance.randint(1, 3), folk, chance.randint(1, len(folk)))

    def test_around_the_greatest(self):
        for cart, folk in list(random_cases(10, 5, seed=27)) + [(1, SEVEN[:5])]:
            most = frac(greatest(cart, folk))
            self.assertEqual(len(to_rest(cart, folk, pair(most))), len(folk))
            self.assertEqual(len(to_rest(cart, folk, pair(-most))), len(folk))
            self.assertIsNone(to_rest(cart, folk, pair(most + LITTLE)))
            self.assertIsNone(to_rest(cart, folk, pair(most - LITTLE)))
            self.assertIsNone(to_rest(cart, folk, pair(most + 1)))

    def test_six_and_seven_ahead_of_all(self):
        for many in (6, 7):
            for speed in ((0, 1), (1, 1), (-5, 3), (10**39, 7)):
                with self.assertRaises(TooMany) as held:
                    to_rest(3, SEVEN[:many], speed)
                self.assertEqual(held.exception.most, 5)
                self.assertIsInstance(held.exception, AskedError)
        self.assertEqual(to_rest(3, SEVEN[:5], (0, 1)), [])

    def test_the_list_is_the_askers_own(self):
        folk = (("a", 1, 1), ("b", 2, 1))
        for speed in ((1, 1), (0, 1)):
            first = to_rest(1, folk, speed)
            kept = list(first)
            second = to_rest(1, folk, speed)
            self.assertIsNot(first, second)
            first.append("more")
            self.assertEqual(second, kept)
            self.assertEqual(to_rest(1, folk, speed), kept)

    def test_somewhat_beyond_the_bounds(self):
        folk = (("a", 300, 200), ("b", 1, 500))
        speed = cart_speeds(2000, folk, Fraction(0), [(("b", 1),), (("a", -1),)])[-1]
        self.assertEqual(to_rest(2000, folk, pair(-speed)), [(("b", 1),), (("a", -1),)])
        self.assertEqual(to_rest(0, (("a", 1, 2),), (2, 1)), [(("a", 1),)])

    def test_kinds_and_names(self):
        told = to_rest(cart=1, folk=(("a", 1, 2),), speed=(1, 1))
        self.assertEqual([type(told), type(told[0]), type(told[0][0])], [list, tuple, tuple])


if __name__ == "__main__":
    unittest.main()
