"""Promises 6 and 2: where the cart and everybody is at an hour."""

import copy
import unittest
from fractions import Fraction

from leapcart.carts import places
from oracle import SEVEN, SMALL, cart_speeds, frac, own_speeds, pair, random_cases, random_leaps

HOURS = ((0, 1), (1, 3), (1, 1), (7, 2), (4, 1), (999, 1), (1000, 1), (2001, 2), (10**39, 7))


def where(cart, folk, timed, hour):
    """Everybody's place, added up over the hours between leaps."""
    leaps = [at_once for at, at_once in timed]
    own = own_speeds(cart, folk, Fraction(0), leaps)
    behind = [Fraction(0)] + cart_speeds(cart, folk, Fraction(0), leaps)
    marks = [Fraction(0)] + [Fraction(at) for at, at_once in timed]
    leapt_at = {name: at for at, at_once in timed for name, way in at_once}

    def cart_place(when):
        total = Fraction(0)
        for at, speed in enumerate(behind):
            end = marks[at + 1] if at + 1 < len(marks) else when
            total += speed * max(Fraction(0), min(end, when) - marks[at])
        return total

    found = {"": cart_place(hour)}
    for name, heavy, leap in folk:
        found[name] = cart_place(hour)
        if name in leapt_at and leapt_at[name] <= hour:
            found[name] = cart_place(leapt_at[name]) + own[name] * (hour - leapt_at[name])
    return sorted(found.items())


class Places(unittest.TestCase):
    def check(self, cart, folk, timed, hour):
        before = copy.deepcopy((cart, folk, timed, hour))
        wanted = [(name, pair(place)) for name, place in where(cart, folk, timed, frac(hour))]
        self.assertEqual(places(cart, folk, timed, hour), wanted)
        self.assertEqual((cart, folk, timed, hour), before)

    def test_at_between_and_beyond(self):
        folk = (("a", 1, 2), ("b", 1, 3))
        # From hour 2 the cart runs at 2/3, a at -4/3; from hour 4 at -5/6, b ahead at 13/6.
        timed = [(2, (("a", -1),)), (4, (("b", 1),))]
        rest = [("", (0, 1)), ("a", (0, 1)), ("b", (0, 1))]
        self.assertEqual(places(1, folk, timed, (0, 1)), rest)
        self.assertEqual(places(1, folk, timed, (3, 2)), rest)
        self.assertEqual(places(1, folk, timed, (2, 1)), rest)
        self.assertEqual(places(1, folk, timed, (7, 2)), [("", (1, 1)), ("a", (-2, 1)), ("b", (1, 1))])
        self.assertEqual(places(1, folk, timed, (4, 1)), [("", (4, 3)), ("a", (-8, 3)), ("b", (4, 3))])
        self.assertEqual(places(1, folk, timed, (5, 1)), [("", (1, 2)), ("a", (-4, 1)), ("b", (7, 2))])
        self.assertEqual(places(1, folk, timed, (10, 1)), [("", (-11, 3)), ("a", (-32, 3)), ("b", (43, 3))])

    def test_a_leap_at_hour_nought(self):
        timed = [(0, (("a", -1),))]
        self.assertEqual(places(1, (("a", 1, 2),), timed, (0, 1)), [("", (0, 1)), ("a", (0, 1))])
        self.assertEqual(places(1, (("a", 1, 2),), timed, (1, 2)), [("", (1, 2)), ("a", (-1, 2))])

    def test_no_leaps(self):
        for hour in HOURS:
            wanted = [("", (0, 1))] + [(one[0], (0, 1)) for one in SEVEN]
            self.assertEqual(places(3, SEVEN, [], hour), wanted)

    def test_leaps_at_once(self):
        timed = [(1, (("a", -1), ("b", 1), ("c", -1)))]
        for hour in HOURS:
            self.check(100, SMALL, timed, hour)

    def test_seven_leaps_to_the_last_hour(self):
        names = [one[0] for one in SEVEN]
        timed = [(at, ((name, -1),)) for at, name in zip((0, 1, 2, 3, 500, 999, 1000), names)]
        for cart in (1, 1000):
            for hour in HOURS:
                self.check(cart, SEVEN, timed, hour)

    def test_many(self):
        for at, (cart, folk) in enumerate(random_cases(200, 7, seed=3)):
            leaps = random_leaps(folk, at)
            timed = [(at % 5 + turn * (1 + at % 7), at_once) for turn, at_once in enumerate(leaps)]
            for hour in HOURS + ((at, 1 + 2 * at),):
                self.check(cart, folk, timed, pair(frac(hour)))

    def test_the_list_is_the_askers_own(self):
        timed = [(2, (("a", -1),)), (4, (("b", 1),))]
        first = places(100, SMALL, timed, (5, 1))
        kept = list(first)
        second = places(100, SMALL, timed, (5, 1))
        self.assertIsNot(first, second)
        first.clear()
        self.assertEqual(second, kept)
        self.assertEqual(places(100, SMALL, timed, (5, 1)), kept)

    def test_kinds_and_names(self):
        told = places(cart=100, folk=SMALL, timed=[(1, (("a", 1),))], hour=(5, 2))
        self.assertIs(type(told), list)
        for one in told:
            self.assertEqual([type(one), type(one[0]), type(one[1])], [tuple, str, tuple])


if __name__ == "__main__":
    unittest.main()
