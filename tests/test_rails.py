"""Promises 12 and 2: a rail, kept deed by deed."""

import copy
import unittest
from fractions import Fraction
from itertools import product
from random import Random

from leapcart.errors import AskedError, NoCart, NoFolk, NoLeaps, NothingLeft, ToldError
from leapcart.fastest import greatest
from leapcart.rails import Rail
from oracle import (
    ANYTHING, SEVEN, SMALL, any_leaps, by_order, cart_speeds, frac, nested, own_speeds, pair, random_cases,
    random_leaps,
)

NO_CARTS = (0, -1, 1001, True, False, None, "5", "", (5,), [5], 5.0, (5, 1), nested(20), 10**40)
NO_FOLK = (
    None, True, 1, "a", (), [], list(SMALL), tuple(list(one) for one in SMALL), (("a", True, 1),), (("a", 1, False),),
    (("a", 0, 1),), (("a", 201, 1),), (("a", 1, 101),), (("a", 1, None),), (("A", 1, 1),), (("", 1, 1),),
    (("b", 1, 1), ("a", 1, 1)), (("a", 1, 1), ("a", 2, 1)), SEVEN + (("h", 1, 1),), nested(20), nested(19),
)
# No leaps of SMALL, whoever is on the cart.
NO_LEAPS = (
    (), [], [("a", 1)], (["a", 1],), ("a", 1), [(("a", 1),)], ((("a", 1),),), (("a",),), (("a", 1, 1),), ("a1",),
    (("a", True),), (("a", False),), (("a", 0),), (("a", 2),), (("a", -2),), (("a", "1"),), (("a", None),),
    (("a", 1.0),), (("a", (1,)),), (("a", [1]),), (("d", 1),), (("A", 1),), (("", 1),), ((None, 1),), ((True, 1),),
    ((("a",), 1),), ((["a"], 1),), ((1, "a"),), (("b", 1), ("a", 1)), (("a", 1), ("c", 1), ("b", 1)),
    (("a", 1), ("a", 1)), (("a", -1), ("a", 1)), (("a", 1), ("d", 1)), (("a", 1), None), (("a", 1), ()),
    nested(20), nested(19), (nested(19),), ((nested(18), 1),), (("a", nested(18)),), (("a", 1),) * 300,
)


def told(rail):
    """All that a rail tells."""
    return (rail.speed(), rail.aboard(), rail.leapers(), rail.still(), len(rail), rail.busy)


def rail_behind(cart, folk, leaps):
    rail = Rail(cart, folk)
    for at_once in leaps:
        rail.leap(at_once)
    return rail


class Rails(unittest.TestCase):
    def check(self, rail, cart, folk, leaps):
        """That the rail tells what is so behind the leaps, from rest."""
        speed = ([Fraction(0)] + cart_speeds(cart, folk, Fraction(0), leaps))[-1]
        own = own_speeds(cart, folk, Fraction(0), leaps)
        on = tuple(one for one in folk if one[0] not in own)
        most = max(by_order(cart, on).values()) if 0 < len(on) < 6 else frac(greatest(cart, on))
        self.assertEqual(told(rail), (
            pair(speed), tuple(one[0] for one in on), [(name, pair(own[name])) for name in sorted(own)],
            pair(most), len(on), False,
        ))

    def check_refused(self, rail, error, deed):
        before = told(rail)
        with self.assertRaises(error):
            deed()
        self.assertEqual(told(rail), before)


class Made(Rails):
    def test_all_at_rest(self):
        for cart, folk in ((1, (("a", 1, 2),)), (1000, (("abcdefgh", 200, 100),)), (100, SMALL), (3, SEVEN)):
            self.check(Rail(cart, folk), cart, folk, [])

    def test_no_cart(self):
        for cart in NO_CARTS + ANYTHING:
            with self.assertRaises(NoCart) as held:
                Rail(cart, SMALL)
            self.assertIsInstance(held.exception, ToldError)

    def test_no_folk(self):
        for folk in NO_FOLK + ANYTHING:
            before = copy.deepcopy(folk)
            with self.assertRaises(NoFolk) as held:
                Rail(100, folk)
            self.assertIsInstance(held.exception, ToldError)
            self.assertEqual(folk, before)

    def test_the_cart_is_refused_first(self):
        for cart in NO_CARTS:
            for folk in NO_FOLK:
                with self.assertRaises(NoCart):
                    Rail(cart, folk)

    def test_names_of_arguments(self):
        rail = Rail(cart=100, folk=SMALL)
        self.assertIsNone(rail.leap(leaps=(("a", 1),)))
        self.assertIsNone(rail.back())

    def test_kinds(self):
        rail = rail_behind(100, SMALL, [(("a", -1),)])
        self.assertEqual([type(rail.speed()), type(rail.still()), type(rail.aboard())], [tuple] * 3)
        self.assertEqual([type(rail.leapers()), type(rail.leapers()[0])], [list, tuple])
        self.assertIs(rail.busy, False)


class Deeds(Rails):
    def test_by_hand(self):
        rail = Rail(1, (("a", 1, 1), ("b", 2, 1)))
        self.assertEqual(told(rail), ((0, 1), ("a", "b"), [], (1, 1), 2, False))
        rail.leap((("b", -1),))
        self.assertEqual(told(rail), ((1, 2), ("a",), [("b", (-1, 2))], (1, 2), 1, False))
        rail.leap((("a", 1),))
        self.assertEqual(told(rail), ((0, 1), (), [("a", (1, 1)), ("b", (-1, 2))], (0, 1), 0, False))
        rail.back()
        self.assertEqual(told(rail), ((1, 2), ("a",), [("b", (-1, 2))], (1, 2), 1, False))
        rail.back()
        self.assertEqual(told(rail), ((0, 1), ("a", "b"), [], (1, 1), 2, False))

    def test_still_is_the_increase_alone(self):
        rail = Rail(1, (("a", 1, 1), ("b", 2, 1)))
        rail.leap((("a", 1),))
        self.assertEqual(rail.speed(), (-1, 4))
        self.assertEqual(rail.still(), (2, 3))

    def test_all_leaps_of_three(self):
        for leaps in any_leaps(SMALL):
            self.check(rail_behind(100, SMALL, leaps), 100, SMALL, leaps)

    def test_there_and_back_again(self):
        for at, (cart, folk) in enumerate(random_cases(70, 7, seed=41)):
            leaps = random_leaps(folk, at)
            rail = Rail(cart, folk)
            for many, at_once in enumerate(leaps):
                self.check(rail, cart, folk, leaps[:many])
                self.assertIsNone(rail.leap(at_once))
            for many in range(len(leaps), 0, -1):
                self.check(rail, cart, folk, leaps[:many])
                self.assertIsNone(rail.back())
            self.check(rail, cart, folk, [])
            self.check_refused(rail, NothingLeft, rail.back)

    def test_seven_at_once_and_one_by_one_both_ways(self):
        names = [one[0] for one in SEVEN]
        for cart, way in product((1, 1000), (1, -1)):
            for leaps in ([tuple((name, way) for name in names)], [((name, way),) for name in reversed(names)]):
                rail = rail_behind(cart, SEVEN, leaps)
                self.check(rail, cart, SEVEN, leaps)
                self.assertEqual((rail.aboard(), len(rail), rail.still()), ((), 0, (0, 1)))

    def test_other_leaps_behind_back(self):
        rail = rail_behind(100, SMALL, [(("a", -1),), (("b", 1), ("c", 1))])
        rail.back()
        rail.leap((("c", -1),))
        self.check(rail, 100, SMALL, [(("a", -1),), (("c", -1),)])
        rail.back()
        rail.back()
        rail.leap((("a", 1), ("b", 1), ("c", -1)))
        self.check(rail, 100, SMALL, [(("a", 1), ("b", 1), ("c", -1))])
        rail.back()
        self.check_refused(rail, NothingLeft, rail.back)

    def test_by_chance(self):
        chance = Random(42)
        for cart, folk in random_cases(14, 7, seed=43):
            rail = Rail(cart, folk)
            leaps = []
            for turn in range(30):
                on = list(rail.aboard())
                if on and chance.random() < 0.6:
                    some = sorted(chance.sample(on, chance.randint(1, len(on))))
                    leaps.append(tuple((name, chance.choice((1, -1))) for name in some))
                    rail.leap(leaps[-1])
                elif leaps:
                    leaps.pop()
                    rail.back()
                else:
                    self.check_refused(rail, NothingLeft, rail.back)
                self.check(rail, cart, folk, leaps)


class Refused(Rails):
    def test_nothing_left(self):
        rail = Rail(100, SMALL)
        for turn in range(3):
            self.check_refused(rail, NothingLeft, rail.back)
        rail.leap((("a", 1),))
        rail.back()
        self.check_refused(rail, NothingLeft, rail.back)
        with self.assertRaises(AskedError):
            rail.back()

    def test_no_leaps(self):
        behind = ([], [(("a", 1),)], [(("b", -1),), (("c", 1),)], [(("a", -1), ("b", 1), ("c", 1))])
        for leaps in behind:
            rail = rail_behind(100, SMALL, leaps)
            for thing in NO_LEAPS + tuple(thing for thing in ANYTHING if thing != (("a", 1),)):
                before = copy.deepcopy(thing)
                self.check_refused(rail, NoLeaps, lambda: rail.leap(thing))
                self.assertEqual(thing, before)
            with self.assertRaises(ToldError):
                rail.leap(None)
            self.check(rail, 100, SMALL, leaps)
            # Refusals are no deeds: just what was done is taken back.
            for at_once in leaps:
                rail.back()
            self.check_refused(rail, NothingLeft, rail.back)

    def test_those_who_are_no_longer_on_it(self):
        rail = rail_behind(100, SMALL, [(("b", 1),)])
        for leaps in ((("b", 1),), (("b", -1),), (("a", 1), ("b", 1)), (("a", 1), ("b", 1), ("c", 1))):
            self.check_refused(rail, NoLeaps, lambda: rail.leap(leaps))
        rail.leap((("a", 1), ("c", 1)))
        for name in "abc":
            self.check_refused(rail, NoLeaps, lambda: rail.leap(((name, 1),)))
        rail.back()
        rail.back()
        rail.leap((("b", -1),))
        self.check(rail, 100, SMALL, [(("b", -1),)])


class Own(Rails):
    def test_lists_are_the_askers_own(self):
        rail = rail_behind(100, SMALL, [(("a", -1),), (("c", 1),)])
        kept = told(rail)
        first, second = rail.leapers(), rail.leapers()
        self.assertIsNot(first, second)
        first.clear()
        self.assertEqual(second, kept[2])
        second.append(("z", (1, 1)))
        self.assertEqual(told(rail), kept)
        early = rail.leapers()
        rail.leap((("b", 1),))
        self.assertEqual(early, kept[2])
        rail.back()
        self.assertEqual(told(rail), kept)

    def test_a_list_told_ahead_of_back_stays(self):
        rail = Rail(100, SMALL)
        nobody = rail.leapers()
        rail.leap((("a", -1),))
        behind = rail.leapers()
        rail.back()
        self.assertEqual((nobody, behind), ([], [("a", (-33, 14))]))
        nobody.append("more")
        self.assertEqual(rail.leapers(), [])

    def test_nothing_handed_in_is_changed(self):
        folk = copy.deepcopy(SMALL)
        leaps = (("a", -1), ("c", 1))
        rail = Rail(100, folk)
        rail.leap(leaps)
        rail.back()
        self.assertEqual((folk, leaps), (SMALL, (("a", -1), ("c", 1))))

    def test_rails_do_not_share(self):
        first, second = Rail(100, SMALL), Rail(100, SMALL)
        first.leap((("a", -1),))
        self.check(second, 100, SMALL, [])
        self.check_refused(second, NothingLeft, second.back)
        self.check(first, 100, SMALL, [(("a", -1),)])

    def test_the_same_asked_again(self):
        rail = rail_behind(100, SMALL, [(("b", -1),)])
        self.assertEqual(told(rail), told(rail))


class Equal(Rails):
    def check_equal(self, one, other, wanted):
        self.assertIs(one == other, wanted)
        self.assertIs(other == one, wanted)
        self.assertIs(one != other, not wanted)

    def test_made_alike(self):
        self.check_equal(Rail(100, SMALL), Rail(100, copy.deepcopy(SMALL)), True)
        rail = Rail(100, SMALL)
        self.check_equal(rail, rail, True)

    def test_carts_and_folk(self):
        self.check_equal(Rail(100, SMALL), Rail(101, SMALL), False)
        self.check_equal(Rail(100, SMALL), Rail(100, SMALL[:2]), False)
        for folk in ((("a", 61, 3),) + SMALL[1:], (("a", 60, 4),) + SMALL[1:], (("aa", 60, 3),) + SMALL[1:]):
            self.check_equal(Rail(100, SMALL), Rail(100, folk), False)
        # All speeds alike, but another cart's weight and heavies.
        twice = tuple((name, 2 * heavy, leap) for name, heavy, leap in SMALL)
        leaps = [(("a", -1),), (("c", 1),)]
        one, other = rail_behind(100, SMALL, leaps), rail_behind(200, twice, leaps)
        self.assertEqual((one.speed(), one.leapers()), (other.speed(), other.leapers()))
        self.check_equal(one, other, False)

    def test_speeds(self):
        behind = [rail_behind(100, SMALL, leaps) for leaps in any_leaps(SMALL)]
        for one, other in product(behind[::3], behind):
            alike = one.speed() == other.speed() and one.leapers() == other.leapers()
            self.check_equal(one, other, alike)

    def test_the_carts_speed_alone_is_not_enough(self):
        # Both bring the cart to 2 by 4; a is off in one, b in the other.
        folk = (("a", 1, 2), ("b", 1, 2), ("c", 1, 9))
        one, other = rail_behind(1, folk, [(("a", -1),)]), rail_behind(1, folk, [(("b", -1),)])
        self.assertEqual(one.speed(), other.speed())
        self.check_equal(one, other, False)

    def test_on_the_cart_and_off_it_at_its_speed(self):
        # b leaps ahead, a staying; or a leaps back first, and the cart comes down to a's speed by b.
        # Everybody is as fast in both, but a is among those who leapt in one alone.
        folk = (("a", 1, 1), ("b", 1, 2))
        one, other = rail_behind(1, folk, [(("b", 1),)]), rail_behind(1, folk, [(("a", -1),), (("b", 1),)])
        self.assertEqual((one.speed(), one.leapers()), ((-2, 3), [("b", (4, 3))]))
        self.assertEqual((other.speed(), other.leapers()), ((-2, 3), [("a", (-2, 3)), ("b", (4, 3))]))
        self.check_equal(one, other, False)

    def test_what_was_done_does_not_count_but_by_speeds(self):
        one, other = Rail(100, SMALL), Rail(100, SMALL)
        one.leap((("a", -1),))
        self.check_equal(one, other, False)
        one.back()
        self.check_equal(one, other, True)
        one.leap((("b", -1),))
        other.leap((("c", 1),))
        other.back()
        other.leap((("b", -1),))
        self.check_equal(one, other, True)

    def test_the_same_cart_speed_behind_unlike_ways(self):
        # a and b drive alike and against one another: the cart rests either way.
        folk = (("a", 2, 3), ("b", 2, 3))
        one = rail_behind(1, folk, [(("a", 1), ("b", -1))])
        other = rail_behind(1, folk, [(("a", -1), ("b", 1))])
        self.assertEqual(one.speed(), other.speed())
        self.check_equal(one, other, False)
        other.back()
        other.leap((("a", 1), ("b", -1)))
        self.check_equal(one, other, True)

    def test_nothing_else_equals_one(self):
        rail = Rail(100, SMALL)
        for thing in ANYTHING + (100, SMALL, (100, SMALL), rail.speed(), rail.aboard(), nested(20), object(), Rail):
            self.check_equal(rail, thing, False)

    def test_asking_changes_nothing(self):
        rail = rail_behind(100, SMALL, [(("a", -1),)])
        before = told(rail)
        for turn in range(2):
            self.assertEqual(rail, rail_behind(100, SMALL, [(("a", -1),)]))
            self.assertEqual(told(rail), before)


class Busy(Rails):
    def test_false_between_calls(self):
        rail = Rail(100, SMALL)
        self.assertIs(rail.busy, False)
        rail.leap((("a", -1),))
        self.assertIs(rail.busy, False)
        for deed in (lambda: rail.leap(None), lambda: rail.leap((("a", 1),))):
            self.check_refused(rail, NoLeaps, deed)
            self.assertIs(rail.busy, False)
        rail.back()
        self.assertIs(rail.busy, False)
        self.check_refused(rail, NothingLeft, rail.back)
        self.assertIs(rail.busy, False)
        rail.still()
        self.assertIs(rail.busy, False)


if __name__ == "__main__":
    unittest.main()
