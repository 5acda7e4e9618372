"""Promise 4 (and 2): of anything, whether it is a cart's weight, folk, leaps of them."""

import copy
import unittest

from leapcart.carts import are_folk, are_leaps, is_cart
from oracle import ANYTHING, SEVEN, SMALL, any_leaps, nested


class Kinds(unittest.TestCase):
    def check_all(self, asked, wanted, things):
        for thing in things:
            before = copy.deepcopy(thing)
            told = asked(thing)
            self.assertIs(told, wanted, repr(thing)[:200])
            self.assertEqual(thing, before)


class Carts(Kinds):
    def test_weights(self):
        self.check_all(is_cart, True, (1, 2, 500, 999, 1000))

    def test_anything_else(self):
        self.check_all(is_cart, False, ANYTHING)
        self.check_all(is_cart, False, (1001, 0, -1000, True, False, "5", (5,), [5], 5.0, (5, 1), nested(20)))


class Folk(Kinds):
    def test_folk(self):
        self.check_all(are_folk, True, (
            (("a", 1, 1),),
            (("z", 200, 100),),
            (("abcdefgh", 1, 100),),
            (("a", 1, 1), ("aa", 1, 1), ("b", 1, 1)),
            # Rising by names alone: what stands behind them may fall.
            (("a", 200, 100), ("b", 1, 1)),
            SMALL,
            SEVEN,
        ))

    def test_anything_else(self):
        self.check_all(are_folk, False, ANYTHING)
        self.check_all(are_folk, False, (nested(20), nested(19), (nested(18), nested(17), nested(16))))

    def test_how_many(self):
        self.check_all(are_folk, False, ((), SEVEN + (("h", 1, 1),)))

    def test_lists_in_place_of_tuples(self):
        self.check_all(are_folk, False, (list(SMALL), tuple(list(one) for one in SMALL), ["a", 1, 1]))

    def test_too_few_and_too_many_parts(self):
        self.check_all(are_folk, False, ((("a", 1),), (("a", 1, 1, 1),), (("a",),), ((),), ("abc",)))

    def test_names(self):
        names = ("", "abcdefghi", "A", "aB", "a1", "a b", "a\n", " a", "-", "{", "`", "\u00e4", "\u0430",
                 1, True, None, ("a",), ["a"])
        self.check_all(are_folk, False, tuple(((name, 1, 1),) for name in names))

    def test_heavies_and_leaps(self):
        for wrong in (0, -1, True, False, None, "1", 1.0, (1, 1), [1], 10**39):
            self.check_all(are_folk, False, ((("a", wrong, 1),), (("a", 1, wrong),)))
        self.check_all(are_folk, False, ((("a", 201, 1),), (("a", 1, 101),)))
        self.check_all(are_folk, True, ((("a", 101, 1),),))

    def test_order_and_names_twice(self):
        self.check_all(are_folk, False, (
            (("b", 1, 1), ("a", 1, 1)),
            (("a", 1, 1), ("c", 1, 1), ("b", 1, 1)),
            (("aa", 1, 1), ("a", 1, 1)),
            (("a", 1, 1), ("a", 1, 1)),
            (("a", 1, 1), ("a", 2, 1)),
            (("a", 1, 1), ("a", 1, 2)),
            (("a", 1, 1), ("b", 1, 1), ("b", 2, 2)),
        ))

    def test_one_wrong_among_right_ones(self):
        for at in range(len(SEVEN)):
            self.check_all(are_folk, False, (SEVEN[:at] + (None,) + SEVEN[at + 1:],
                                             SEVEN[:at] + (("x", 0, 1),) + SEVEN[at + 1:]))


class Leaps(Kinds):
    def check(self, wanted, things):
        self.check_all(lambda thing: are_leaps(SMALL, thing), wanted, things)

    def test_leaps(self):
        self.check(True, (
            [],
            [(("a", 1),)],
            [(("a", -1),)],
            [(("c", -1),), (("b", 1),), (("a", -1),)],
            [(("a", 1), ("b", -1), ("c", 1))],
            [(("b", 1), ("c", 1)), (("a", -1),)],
        ))

    def test_all_leaps_of_three(self):
        self.check(True, any_leaps(SMALL))

    def test_seven_one_by_one_and_at_once(self):
        singles = [((one[0], -1),) for one in reversed(SEVEN)]
        at_once = [tuple((one[0], 1) for one in SEVEN)]
        self.assertIs(are_leaps(SEVEN, singles), True)
        self.assertIs(are_leaps(SEVEN, at_once), True)

    def test_eight_tuples(self):
        eight = tuple((name, 1, 1) for name in "abcdefgh")
        self.assertIs(are_leaps(eight, [((name, 1),) for name in "abcdefgh"]), False)
        self.assertIs(are_leaps(eight, [((name, 1),) for name in "abcdefg"]), True)

    def test_anything_else(self):
        self.check(False, ANYTHING)
        self.check(False, (nested(20), nested(19), [nested(18)], [(nested(17),)], [((nested(16), 1),)],
                           [(("a", nested(16)),)]))

    def test_lists_and_tuples_swapped(self):
        self.check(False, (
            (),
            ((("a", 1),),),
            [[("a", 1)]],
            [(["a", 1],)],
            [("a", 1)],
            ("a", 1),
            (("a", 1),),
        ))

    def test_no_leap_in_a_tuple(self):
        self.check(False, ([()], [(("a", 1),), ()], [(), (("a", 1),)]))

    def test_too_few_and_too_many_parts(self):
        self.check(False, ([(("a",),)], [(("a", 1, 1),)], [((),)], [("a1",)]))

    def test_ways(self):
        for wrong in (0, 2, -2, True, False, None, "1", 1.0, -1.0, (1,), [1], 10**40):
            self.check(False, ([(("a", wrong),)], [(("b", -1),), (("a", wrong),)]))

    def test_names(self):
        for wrong in ("", "d", "A", "ab", None, 1, True, ("a",), ["a"], SMALL[0]):
            self.check(False, ([((wrong, 1),)], [(("a", 1),), ((wrong, 1),)]))

    def test_order_within_a_tuple(self):
        self.check(False, ([(("b", 1), ("a", 1))], [(("a", 1), ("c", 1), ("b", 1))]))

    def test_a_name_twice(self):
        self.check(False, (
            [(("a", 1), ("a", 1))],
            [(("a", -1), ("a", 1))],
            [(("a", 1),), (("a", 1),)],
            [(("a", 1),), (("a", -1),)],
            [(("a", 1), ("b", 1)), (("b", 1), ("c", 1))],
            [(("a", 1),), (("b", 1),), (("a", 1),)],
        ))


if __name__ == "__main__":
    unittest.main()
