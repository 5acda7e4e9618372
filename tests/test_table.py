"""Promises 8 and 2: the least table, and what anything shows as a table."""

import copy
import unittest

from leapcart.fastest import greatest, shown, table
from oracle import ANYTHING, PRIMES, SEVEN, SMALL, by_order, frac, lots, nested, pair, random_cases, random_small_cases

PAIR = (("a", 1, 1), ("b", 2, 1))
# The least table of PAIR on a cart of 1.
LEAST = (((), (0, 1)), (("a",), (1, 2)), (("a", "b"), (1, 1)), (("b",), (2, 3)))


def changed(rows, at, row):
    return rows[:at] + (row,) + rows[at + 1:]


def raised(rows, more):
    """The same table with every fraction greater by as much."""
    return tuple((lot, pair(frac(worth) + more)) for lot, worth in rows)


class Least(unittest.TestCase):
    def check_lots(self, cart, folk):
        rows = table(cart, folk)
        self.assertEqual([lot for lot, worth in rows], lots(folk))
        told = dict(rows)
        self.assertEqual(told[()], (0, 1))
        for lot in lots(folk)[1:]:
            some = tuple(one for one in folk if one[0] in lot)
            self.assertEqual(told[lot], pair(max(by_order(cart, some).values())))
        self.assertEqual(shown(cart, folk, rows), told[tuple(one[0] for one in folk)])

    def test_two(self):
        self.assertEqual(table(1, PAIR), LEAST)

    def test_one(self):
        self.assertEqual(table(1000, (("abcdefgh", 200, 100),)), (((), (0, 1)), (("abcdefgh",), (50, 3))))
        self.assertEqual(table(1, (("a", 1, 1),)), (((), (0, 1)), (("a",), (1, 2))))

    def test_lots_stand_rising_and_each_once(self):
        for cart, folk in random_cases(14, 7, seed=7):
            self.assertEqual([lot for lot, worth in table(cart, folk)], lots(folk))

    def test_each_fraction_is_what_the_lot_can_do(self):
        # A table shows a bound for each lot, and the least one is reached by some order of it.
        for cart, folk in list(random_cases(20, 4, seed=8)) + [(1, SEVEN[:5]), (1000, SEVEN[:5])]:
            self.check_lots(cart, folk)

    def test_one_to_seven_without_common_divisors(self):
        for many in range(1, 8):
            self.check_lots(997, PRIMES[:many])

    def test_one_to_six_with_many_alike(self):
        for cart, folk in random_small_cases(24, 6, seed=35):
            self.check_lots(cart, folk)

    def test_it_shows_the_greatest_speed(self):
        for cart, folk in list(random_cases(40, 7, seed=9)) + [(1, SEVEN), (1000, SEVEN)]:
            self.assertEqual(shown(cart, folk, table(cart, folk)), greatest(cart, folk))

    def test_kinds_and_names(self):
        told = table(cart=100, folk=SMALL)
        self.assertIs(type(told), tuple)
        for row in told:
            self.assertEqual([type(row), type(row[0]), type(row[1])], [tuple] * 3)
        self.assertEqual(shown(cart=100, folk=SMALL, thing=told), (223, 70))

    def test_somewhat_beyond_the_bounds(self):
        folk = tuple((name, 300, 200) for name in "abcdefgh")
        self.assertEqual(shown(2000, folk, table(2000, folk)), greatest(2000, folk))


class Shown(unittest.TestCase):
    def check(self, wanted, thing, cart=1, folk=PAIR):
        before = copy.deepcopy(thing)
        self.assertEqual(shown(cart, folk, thing), wanted, repr(thing)[:200])
        self.assertEqual(thing, before)

    def test_greater_tables(self):
        self.check((1, 1), LEAST)
        self.check((2, 1), raised(LEAST, 1))
        self.check((5, 1), changed(LEAST, 2, (("a", "b"), (5, 1))))
        # b first asks for 2/4 and a's 1/2, so there is room for b's own up to 3/4.
        self.check((1, 1), changed(LEAST, 3, (("b",), (3, 4))))

    def test_numbers_of_any_figures(self):
        huge = 10**3000
        self.check((huge, 1), changed(LEAST, 2, (("a", "b"), (huge, 1))))
        self.check((huge + 1, huge), changed(LEAST, 2, (("a", "b"), (huge + 1, huge))))
        self.check(None, changed(LEAST, 2, (("a", "b"), (huge - 1, huge))))
        self.check(None, changed(LEAST, 2, (("a", "b"), (huge, huge))))

    def test_every_fraction_must_be_great_enough(self):
        for cart, folk in random_cases(14, 5, seed=10):
            rows = table(cart, folk)
            for at, (lot, worth) in enumerate(rows):
                less = pair(frac(worth) - frac((1, 10**50)))
                self.check(None, changed(rows, at, (lot, less)), cart, folk)

    def test_every_fraction_of_seven_must_be_great_enough(self):
        rows = table(997, PRIMES)
        for at, (lot, worth) in enumerate(rows):
            self.check(None, changed(rows, at, (lot, pair(frac(worth) - frac((1, 10**50))))), 997, PRIMES)
        wanted = greatest(997, PRIMES)
        self.check(wanted, rows, 997, PRIMES)

    def test_what_a_smaller_lot_adds_counts(self):
        for cart, folk in ((1, PAIR), (100, SMALL), (1, SEVEN)):
            rows = table(cart, folk)
            for at, (lot, worth) in enumerate(rows):
                more = changed(rows, at, (lot, pair(frac(worth) + 10**6)))
                wanted = pair(frac(worth) + 10**6) if len(lot) == len(folk) else None
                self.check(wanted, more, cart, folk)

    def test_nobody_below_nought(self):
        # A greater rest does not make up for it.
        rows = raised(LEAST, 10)
        self.check(None, changed(rows, 0, ((), (-1, 1))))
        self.check((11, 1), changed(rows, 0, ((), (0, 1))))

    def test_another_cart_or_other_folk(self):
        self.check((1, 1), LEAST, cart=2)
        self.check(None, table(2, PAIR), cart=1)
        self.check(None, LEAST, folk=(("a", 1, 1), ("c", 2, 1)))
        self.check(None, LEAST, folk=(("a", 1, 1),))
        self.check(None, LEAST, folk=PAIR + (("c", 1, 1),))

    def test_anything_else(self):
        for thing in ANYTHING + (nested(20), nested(19), LEAST[0], (LEAST,), (0, 1)):
            self.check(None, thing)
            self.check(None, thing, 100, SMALL)
            self.check(None, thing, 1, (("a", 1, 1),))

    def test_lists_in_place_of_tuples(self):
        self.check(None, list(LEAST))
        for at, (lot, worth) in enumerate(LEAST):
            self.check(None, changed(LEAST, at, [lot, worth]))
            self.check(None, changed(LEAST, at, (list(lot), worth)))
            self.check(None, changed(LEAST, at, (lot, list(worth))))

    def test_too_few_and_too_many(self):
        for at, (lot, worth) in enumerate(LEAST):
            self.check(None, LEAST[:at] + LEAST[at + 1:])
            self.check(None, LEAST[:at] + LEAST[at:at + 1] + LEAST[at:])
            self.check(None, changed(LEAST, at, (lot,)))
            self.check(None, changed(LEAST, at, (lot, worth, worth)))
            self.check(None, changed(LEAST, at, (lot, worth + (1,))))
            self.check(None, changed(LEAST, at, (lot, worth[:1])))
            self.check(None, changed(LEAST, at, ()))
        self.check(None, LEAST + ((("c",), (9, 1)),))

    def test_order(self):
        self.check(None, tuple(reversed(LEAST)))
        for at in range(len(LEAST) - 1):
            self.check(None, LEAST[:at] + (LEAST[at + 1], LEAST[at]) + LEAST[at + 2:])

    def test_lots_that_are_none(self):
        for lot in (("b", "a"), ("a", "a"), ("a", "b", "b"), ("a", "c"), "ab", None, 1, True, (1, 2), nested(17)):
            self.check(None, changed(LEAST, 2, (lot, (5, 1))))

    def test_fractions_that_are_none(self):
        wrong = ((2, 2), (10, 2), (5, 0), (1, 0), (-5, -1), (5, -1), (True, 1), (5, True), (5, False), (5.0, 1),
                 (5, 1.0), ("5", 1), (5, None), 5, "51", None, True, ((5,), 1), ((5, 1), (1, 1)), nested(17))
        for worth in wrong:
            self.check(None, changed(LEAST, 2, (("a", "b"), worth)))
        for worth in ((0, 2), (0, 0), (0, -1), (False, 1), (0, True), 0, None):
            self.check(None, changed(LEAST, 0, ((), worth)))


if __name__ == "__main__":
    unittest.main()
