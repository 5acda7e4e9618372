"""Promise 3 (and 1): what is promised over the whole program."""

import unittest
from fractions import Fraction

from leapcart.carts import leapers, speeds
from leapcart.fastest import all_speeds, best_order, greatest, shown, slowest, table
from leapcart.rails import Rail
from leapcart.unseen import heavy_by, leap_by
from leapcart.wished import fewest_for, to_rest
from oracle import SMALL, any_leaps, back, frac, orders, pair, random_cases, random_leaps


def scaled_weights(folk, times):
    return tuple((name, heavy * times, leap) for name, heavy, leap in folk)


def scaled_leaps(folk, times):
    return tuple((name, heavy, leap * times) for name, heavy, leap in folk)


def times_fraction(worth, times):
    return pair(frac(worth) * times)


class Whole(unittest.TestCase):
    def test_no_leaps_make_it_faster_than_told(self):
        cases = [(100, SMALL), (1, (("a", 200, 1), ("b", 1, 100), ("c", 3, 7), ("d", 90, 2)))]
        for cart, folk in cases + list(random_cases(6, 3, seed=11)):
            most = frac(greatest(cart, folk))
            reached = max(frac(([(0, 1)] + speeds(cart, folk, (0, 1), leaps))[-1]) for leaps in any_leaps(folk))
            self.assertEqual(reached, most)

    def test_no_order_leaves_it_slower_than_told(self):
        for cart, folk in random_cases(15, 5, seed=12):
            reached = [frac(speeds(cart, folk, (0, 1), back(order))[-1]) for order in orders(folk)]
            self.assertEqual(pair(min(reached)), slowest(cart, folk))

    def test_at_once_never_drives_more_than_one_by_one(self):
        for cart, folk in random_cases(40, 7, seed=13):
            at_once = speeds(cart, folk, (0, 1), [tuple((one[0], -1) for one in folk)])[-1]
            self.assertLessEqual(frac(at_once), frac(slowest(cart, folk)))

    def test_with_leaps_alike_the_heaviest_first_is_best(self):
        for cart, folk in random_cases(40, 7, seed=14):
            alike = tuple((name, heavy, 4) for name, heavy, leap in folk)
            falling = [one[0] for one in sorted(alike, key=lambda one: (-one[1], one[0]))]
            self.assertEqual(best_order(cart, alike), tuple(falling))
            lightest_first = speeds(cart, alike, (0, 1), back(reversed(falling)))[-1]
            self.assertEqual(slowest(cart, alike), lightest_first)

    def test_all_weights_as_many_times_as_great_change_nothing(self):
        folk = (("a", 6, 3), ("b", 20, 3), ("c", 11, 70))
        leaps = [(("b", -1),), (("a", 1), ("c", -1))]
        for times in (2, 7, 10):
            heavier = scaled_weights(folk, times)
            for asked in (greatest, slowest, best_order, all_speeds, table):
                self.assertEqual(asked(17 * times, heavier), asked(17, folk))
            for asked in (speeds, leapers):
                self.assertEqual(asked(17 * times, heavier, (3, 5), leaps), asked(17, folk, (3, 5), leaps))

    def test_all_leaps_as_many_times_as_fast_change_nothing_but_themselves(self):
        folk = (("a", 60, 3), ("b", 200, 3), ("c", 110, 7))
        for times in (2, 3, 10):
            faster = scaled_leaps(folk, times)
            for asked in (greatest, slowest):
                self.assertEqual(asked(170, faster), times_fraction(asked(170, folk), times))
            self.assertEqual(best_order(170, faster), best_order(170, folk))
            self.assertEqual(all_speeds(170, faster), [times_fraction(one, times) for one in all_speeds(170, folk)])
            for leaps in any_leaps(folk):
                told = speeds(170, folk, (-1, 3), leaps)
                self.assertEqual(speeds(170, faster, (-times, 3) if times != 3 else (-1, 1), leaps),
                                 [times_fraction(one, times) for one in told])

    def test_no_fewer_leaps_than_told_bring_it_to_a_wished_speed(self):
        for cart, folk in [(100, SMALL)] + list(random_cases(8, 4, seed=17)):
            most = frac(greatest(cart, folk))
            reached = [
                (sum(len(at_once) for at_once in leaps), frac(speeds(cart, folk, (0, 1), leaps)[-1]))
                for leaps in any_leaps(folk) if leaps
            ]
            for wished in [most * part / 12 for part in range(1, 14)]:
                told = fewest_for(cart, folk, pair(wished))
                enough = [many for many, speed in reached if speed >= wished]
                self.assertEqual(None if told is None else len(told), min(enough, default=None))

    def test_an_unseen_weight_or_leap_is_the_told_one(self):
        for cart, folk in random_cases(20, 7, seed=18):
            for name, heavy, leap in folk:
                more = speeds(cart, folk, (0, 1), [((name, -1),)])[0]
                others = tuple(one for one in folk if one[0] != name)
                unseen = tuple(sorted(others + ((name, None, leap),)))
                self.assertEqual(heavy_by(cart, unseen, name, more), (heavy, 1))
                unseen = tuple(sorted(others + ((name, heavy, None),)))
                self.assertEqual(leap_by(cart, unseen, name, more), (leap, 1))

    def test_weights_as_many_times_as_great_for_wishes_unseen_and_rails(self):
        folk = (("a", 6, 3), ("b", 20, 3), ("c", 11, 70))
        resting = pair(-frac(speeds(17, folk, (0, 1), [(("b", -1),), (("a", 1),)])[-1]))
        for times in (2, 7, 10):
            heavier = scaled_weights(folk, times)
            for speed in ((1, 2), (5, 1), (14, 1), greatest(17, folk), (99, 1)):
                self.assertEqual(fewest_for(17 * times, heavier, speed), fewest_for(17, folk, speed))
            for speed in ((0, 1), (1, 2), resting):
                self.assertEqual(to_rest(17 * times, heavier, speed), to_rest(17, folk, speed))
            self.assertEqual(leap_by(17 * times, heavier, "b", (2, 3)), leap_by(17, folk, "b", (2, 3)))
            self.assertEqual(heavy_by(17 * times, heavier, "b", (2, 3)),
                             times_fraction(heavy_by(17, folk, "b", (2, 3)), times))
            one, other = Rail(17, folk), Rail(17 * times, heavier)
            for at_once in ((("b", -1),), (("a", 1), ("c", -1))):
                one.leap(at_once)
                other.leap(at_once)
                self.assertEqual((one.speed(), one.leapers(), one.still()),
                                 (other.speed(), other.leapers(), other.still()))

    def test_leaps_as_many_times_as_fast_for_wishes_unseen_and_rails(self):
        folk = (("a", 60, 3), ("b", 200, 3), ("c", 110, 7))
        resting = pair(-frac(speeds(170, folk, (0, 1), [(("b", -1),), (("a", 1),)])[-1]))
        for times in (2, 3, 10):
            faster = scaled_leaps(folk, times)
            for speed in ((1, 2), (5, 2), greatest(170, folk), (99, 1)):
                self.assertEqual(fewest_for(170, faster, times_fraction(speed, times)), fewest_for(170, folk, speed))
            for speed in ((0, 1), (1, 2), resting):
                self.assertEqual(to_rest(170, faster, times_fraction(speed, times)), to_rest(170, folk, speed))
            more = times_fraction((2, 3), times)
            self.assertEqual(heavy_by(170, faster, "b", more), heavy_by(170, folk, "b", (2, 3)))
            self.assertEqual(leap_by(170, faster, "b", more), times_fraction(leap_by(170, folk, "b", (2, 3)), times))
            one, other = Rail(170, folk), Rail(170, faster)
            for rail in (one, other):
                rail.leap((("a", 1), ("c", -1)))
            self.assertEqual(other.speed(), times_fraction(one.speed(), times))
            self.assertEqual(other.still(), times_fraction(one.still(), times))

    def test_the_balance_holds_on_a_rail(self):
        for at, (cart, folk) in enumerate(random_cases(30, 7, seed=19)):
            rail = Rail(cart, folk)
            for at_once in random_leaps(folk, at):
                rail.leap(at_once)
                own = dict(rail.leapers())
                balance = cart * frac(rail.speed())
                for name, heavy, leap in folk:
                    balance += heavy * frac(own.get(name, rail.speed()))
                self.assertEqual(balance, 0)

    def test_a_rail_reaches_just_what_it_can_still_gain(self):
        for at, (cart, folk) in enumerate(random_cases(30, 7, seed=20)):
            rail = Rail(cart, folk)
            for at_once in random_leaps(folk, at)[:2]:
                rail.leap(at_once)
            most = frac(rail.speed()) + frac(rail.still())
            on = tuple(one for one in folk if one[0] in rail.aboard())
            if on:
                for name in best_order(cart, on):
                    rail.leap(((name, -1),))
            self.assertEqual(frac(rail.speed()), most)
            self.assertEqual(rail.still(), (0, 1))

    def test_any_table_bounds_all_speeds(self):
        for cart, folk in random_cases(10, 4, seed=15):
            for more in (Fraction(0), Fraction(1, 7), Fraction(5)):
                rows = tuple((lot, pair(frac(worth) + more)) for lot, worth in table(cart, folk))
                self.assertGreaterEqual(frac(shown(cart, folk, rows)), frac(greatest(cart, folk)))

    def test_the_same_asked_again(self):
        for at, (cart, folk) in enumerate(random_cases(10, 5, seed=16)):
            leaps = random_leaps(folk, at)
            for asked in (greatest, slowest, best_order, all_speeds, table):
                self.assertEqual(asked(cart, folk), asked(cart, folk))
            self.assertEqual(speeds(cart, folk, (1, 3), leaps), speeds(cart, folk, (1, 3), leaps))
            name = folk[-1][0]
            for asked, more in ((fewest_for, ()), (to_rest, ()), (heavy_by, (name,)), (leap_by, (name,))):
                self.assertEqual(asked(cart, folk, *more, (1, 3)), asked(cart, folk, *more, (1, 3)))


if __name__ == "__main__":
    unittest.main()
