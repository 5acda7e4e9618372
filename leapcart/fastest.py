"""The fastest and the slowest that a cart becomes from rest, and tables that show it.

Leaps back, one by one, are all that need looking at: at once drives less, ahead the wrong way.

Where it must go fast a lot is a number, whose bits say who is in it, the lowest the first of the
folk: so what is known by lot is a list, and a lot without one of it stands ahead of it there.
"""

from leapcart.carts import names_of, weigh
from leapcart.errors import TooMany
from leapcart.worth import NOUGHT, fraction, is_at_least, is_fraction, is_tuple_of, plain_sum, plus, rising

MOST_FOR_ALL = 5


def lot_weights(cart, folk):
    """By lot, what the cart and the lot weigh."""
    weights = [cart]
    for name, heavy, leap in folk:
        weights = weights + [weight + heavy for weight in weights]
    return weights


def lot_pushes(folk):
    """By lot, an (alone, push) for each one of it: the lot of this one alone, and heavy times leap."""
    pushes = [()]
    for name, heavy, leap in folk:
        one = (len(pushes), heavy * leap)
        pushes = pushes + [known + (one,) for known in pushes]
    return pushes


def rising_lots(folk):
    """A (names, lot) for every lot, rising by names."""
    rows = [((), 0)]
    alone = 1 << len(folk)
    for name in reversed(names_of(folk)):
        alone = alone // 2
        rows = rows[:1] + [((name,) + names, alone + lot) for names, lot in rows] + rows[1:]
    return rows


def lots_of(folk):
    """Every lot of the folk, rising, () first; each lot is like folk itself."""
    lots = [()]
    for one in reversed(folk):
        lots = [()] + [(one,) + lot for lot in lots] + lots[1:]
    return lots


def without(lot, one):
    """The lot without this one."""
    return tuple([other for other in lot if other != one])


def drive(cart, lot, one):
    """By how much this one of the lot, leaping back first, makes the cart faster."""
    name, heavy, leap = one
    return fraction(heavy * leap, weigh(cart, lot))


def only_greatest(fractions):
    """A list of the greatest fraction alone."""
    return rising(fractions)[-1:]


def only_least(fractions):
    """A list of the least fraction alone."""
    return rising(fractions)[:1]


def drives(cart, folk, kept):
    """By lot, what kept leaves of all by which it drives the cart when all of it leap back.

    What is best, or worst, of a lot is so of the rest behind its first leap, too: so it is
    enough to go on from what was kept of the lots that are smaller by one.
    """
    found = {(): [NOUGHT]}
    for lot in sorted(lots_of(folk), key=len)[1:]:
        found[lot] = kept([
            plus(drive(cart, lot, one), rest)
            for one in lot
            for rest in found[without(lot, one)]
        ])
    return found


def greatest(cart, folk):
    """The greatest speed that the cart can have behind any leaps."""
    return drives(cart, folk, only_greatest)[folk][0]


def slowest(cart, folk):
    """The least speed that the cart has when all have leapt back, one by one."""
    return drives(cart, folk, only_least)[folk][0]


def all_speeds(cart, folk):
    """All unlike speeds that the cart can have when all have leapt back, rising."""
    if len(folk) > MOST_FOR_ALL:
        raise TooMany(MOST_FOR_ALL)
    return drives(cart, folk, rising)[folk]


def first_best(cart, lot, found):
    """The first of the lot who can leap first where the lot drives the cart most."""
    best = [
        one for one in lot
        if plus(drive(cart, lot, one), found[without(lot, one)][0]) == found[lot][0]
    ]
    return best[0]


def best_order(cart, folk):
    """The first order of all folk by which the cart becomes fastest."""
    found = drives(cart, folk, only_greatest)
    lot = folk
    order = []
    while len(lot) > 0:
        one = first_best(cart, lot, found)
        order.append(one[0])
        lot = without(lot, one)
    return tuple(order)


def table(cart, folk):
    """The table whose fractions are as small as can be."""
    found = drives(cart, folk, only_greatest)
    return tuple([(names_of(lot), found[lot][0]) for lot in lots_of(folk)])


def is_row(lot, thing):
    """Whether anything is a pair of the lot's names and a fraction."""
    return is_tuple_of(thing, 2) and thing[0] == names_of(lot) and is_fraction(thing[1])


def bounds_lot(cart, lot, found):
    """Whether the lot's fraction is no less than whoever of it leaps first asks for."""
    # Unreduced sums are enough to compare, and figures may be many here.
    return all([
        is_at_least(found[lot], plain_sum(drive(cart, lot, one), found[without(lot, one)]))
        for one in lot
    ])


def shown(cart, folk, thing):
    """What anything shows as a table: the fraction of all folk; None where it is none."""
    lots = lots_of(folk)
    if not is_tuple_of(thing, len(lots)):
        return None
    if not all([is_row(lot, row) for lot, row in zip(lots, thing)]):
        return None
    found = {lot: row[1] for lot, row in zip(lots, thing)}
    if not is_at_least(found[()], NOUGHT):
        return None
    if not all([bounds_lot(cart, lot, found) for lot in lots]):
        return None
    return found[folk]
