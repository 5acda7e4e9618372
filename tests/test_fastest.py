"""Promises 7 and 2: the greatest and the least speed, the first best order, all speeds."""

import copy
import unittest

from leapcart.carts import speeds
from leapcart.errors import AskedError, TooMany
from leapcart.fastest import all_speeds, best_order, greatest, slowest
from oracle import PRIMES, SEVEN, SMALL, back, by_order, pair, random_cases, random_small_cases

ALIKE = tuple((name, 7, 9) for name in "abcdefg")


class Fastest(unittest.TestCase):
    def check(self, cart, folk):
        before = copy.deepcopy(folk)
        found = by_order(cart, folk)
        most = max(found.values())
        self.assertEqual(greatest(cart, folk), pair(most))
        self.assertEqual(slowest(cart, folk), pair(min(found.values())))
        self.assertEqual(best_order(cart, folk), min(order for order in found if found[order] == most))
        if len(folk) <= 5:
            self.assertEqual(all_speeds(cart, folk), [pair(one) for one in sorted(set(found.values()))])
        self.assertEqual(folk, before)

    def test_one(self):
        folk = (("a", 1, 2),)
        self.assertEqual(greatest(1, folk), (1, 1))
        self.assertEqual(slowest(1, folk), (1, 1))
        self.assertEqual(best_order(1, folk), ("a",))
        self.assertEqual(all_speeds(1, folk), [(1, 1)])

    def test_two(self):
        # b first: 2/4 and 1/2; a first: 1/4 and 2/3.
        folk = (("a", 1, 1), ("b", 2, 1))
        self.assertEqual(greatest(1, folk), (1, 1))
        self.assertEqual(slowest(1, folk), (11, 12))
        self.assertEqual(best_order(1, folk), ("b", "a"))
        self.assertEqual(all_speeds(1, folk), [(11, 12), (1, 1)])

    def test_unlike_leaps_may_turn_the_order(self):
        folk = (("a", 60, 3), ("b", 80, 3), ("c", 40, 5))
        self.assertEqual(best_order(100, folk), ("b", "a", "c"))
        self.assertEqual(greatest(100, folk), (223, 70))
        self.assertEqual(slowest(100, folk), (235, 84))

    def test_the_first_of_many_best_orders(self):
        self.assertEqual(best_order(5, ALIKE), tuple("abcdefg"))
        self.assertEqual(greatest(5, ALIKE), slowest(5, ALIKE))
        self.assertEqual(all_speeds(5, ALIKE[:5]), [greatest(5, ALIKE[:5])])
        self.assertEqual(best_order(5, (("a", 1, 9), ("b", 7, 9), ("c", 7, 9))), ("b", "c", "a"))

    def test_speeds_rise_by_worth(self):
        # As pairs of tops and bottoms these would stand in another order.
        told = all_speeds(100, SMALL)
        self.assertEqual(told, [(235, 84), (159, 56), (1333, 462), (167, 56), (487, 154), (223, 70)])
        self.assertNotEqual(told, sorted(told))

    def test_edges(self):
        for cart in (1, 1000):
            for folk in ((("a", 1, 1),), (("abcdefgh", 200, 100),), (("a", 1, 1), ("b", 200, 100)), SEVEN[:5], SEVEN):
                self.check(cart, folk)

    def test_many(self):
        for cart, folk in random_cases(120, 5, seed=4):
            self.check(cart, folk)

    def test_six_and_seven(self):
        for cart, folk in random_cases(7, 7, seed=5):
            self.check(cart, folk)

    def test_one_to_seven_without_common_divisors(self):
        for many in range(1, 8):
            self.check(997, PRIMES[:many])
            self.check(997, PRIMES[7 - many:])

    def test_one_to_seven_with_many_alike(self):
        # Small numbers make many orders alike, so that the first of them counts.
        for cart, folk in list(random_small_cases(60, 5, seed=33)) + list(random_small_cases(14, 7, seed=34)):
            self.check(cart, folk)

    def test_the_order_makes_the_cart_just_so_fast(self):
        for cart, folk in random_cases(40, 7, seed=6):
            order = best_order(cart, folk)
            self.assertEqual(speeds(cart, folk, (0, 1), back(order))[-1], greatest(cart, folk))

    def test_five_and_six_for_all_speeds(self):
        self.assertEqual(len(all_speeds(3, SEVEN[:5])), len(set(by_order(3, SEVEN[:5]).values())))
        for many in (6, 7):
            with self.assertRaises(TooMany) as held:
                all_speeds(3, SEVEN[:many])
            self.assertEqual(held.exception.most, 5)
            self.assertIsInstance(held.exception, AskedError)

    def test_no_other_question_has_too_many(self):
        greatest(3, SEVEN)
        slowest(3, SEVEN)
        best_order(3, SEVEN)

    def test_somewhat_beyond_the_bounds(self):
        folk = tuple((name, 300, 200) for name in "abcdefghi")
        self.assertEqual(best_order(2000, folk), tuple("abcdefghi"))
        self.assertEqual(greatest(2000, folk), slowest(2000, folk))

    def test_the_list_is_the_askers_own(self):
        first = all_speeds(100, SMALL)
        kept = list(first)
        second = all_speeds(100, SMALL)
        self.assertIsNot(first, second)
        first.clear()
        self.assertEqual(second, kept)
        self.assertEqual(all_speeds(100, SMALL), kept)

    def test_kinds_and_names(self):
        for asked in (greatest, slowest):
            told = asked(cart=100, folk=SMALL)
            self.assertEqual([type(told), type(told[0]), type(told[1])], [tuple, int, int])
        self.assertIs(type(best_order(cart=100, folk=SMALL)), tuple)
        self.assertIs(type(all_speeds(cart=100, folk=SMALL)), list)


if __name__ == "__main__":
    unittest.main()
