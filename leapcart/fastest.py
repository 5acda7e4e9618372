"""The fastest and the slowest that a cart becomes from rest, and tables that show it.

Leaps back, one by one, are all that need looking at: at once drives less, ahead the wrong way.

A lot is a number, whose bits say who is in it, the lowest the first of the folk: so what is known
by lot is a list, and a lot without one of it stands ahead of it there.
"""

from leapcart.carts import names_of
from leapcart.errors import TooMany
from leapcart.worth import NOUGHT, fraction, is_at_least, is_fraction, is_tuple_of, plus, rising

MOST_FOR_ALL = 5


def lot_weights(cart, folk):
    """By lot, what the cart and the lot weigh."""
    weights = [cart]
    for name, heavy, leap in folk:
        weights = weights + [weight + heavy for weight in weights]
    return weights


def lot_pushes(folk, sign=1):
    """By lot, an (alone, push) for each one of it: the lot of this one alone, and sign times heavy times leap."""
    pushes = [()]
    for name, heavy, leap in folk:
        one = (len(pushes), sign * heavy * leap)
        pushes = pushes + [known + (one,) for known in pushes]
    return pushes


def rising_lots(folk):
    """A (names, lot) for every lot, rising by names."""
    rows = [((), 0)]
    alone = 1 << len(folk)
    for name in reversed(names_of(folk)):
        alone = alone // 2
        rows = rows[:1] + [((name,) + names, alone + lot) for names, lot in rows] + rows[1:]
    return rows


def most_drive(found, pushes, weight):
    """(top, bottom, first) of the next lot: the most by which it drives the cart, and who first leaps then.

    Of several the first in the folk is told.
    """
    lot = len(found)
    # Less than any fraction, whatever it is compared with.
    most, under, first = -1, 0, 0
    for alone, push in pushes:
        top, bottom, behind = found[lot - alone]
        # What is compared is times the lot's weight, by which all would be divided.
        top = top * weight + push * bottom
        if top * under > most * bottom:
            most, under, first = top, bottom, alone
    return (most, under * weight, first)


def most_drives(cart, folk, sign=1):
    """By lot, (top, bottom, first) of the most by which it drives the cart when all of it leap back.

    What is best of a lot is so of the rest behind its first leap, too: so it is enough to go on from
    the lots that are smaller by one. With the sign -1 all drive the other way, and the most is the
    least. Common divisors are left in: so few fractions are added up that looking for them takes longer.
    """
    weights = lot_weights(cart, folk)
    found = [(0, 1, 0)]
    for lot, pushes in enumerate(lot_pushes(folk, sign)):
        if lot > 0:
            found.append(most_drive(found, pushes, weights[lot]))
    return found


def greatest(cart, folk):
    """The greatest speed that the cart can have behind any leaps."""
    top, bottom, first = most_drives(cart, folk)[-1]
    return fraction(top, bottom)


def slowest(cart, folk):
    """The least speed that the cart has when all have leapt back, one by one."""
    top, bottom, first = most_drives(cart, folk, -1)[-1]
    return fraction(-top, bottom)


def all_speeds(cart, folk):
    """All unlike speeds that the cart can have when all have leapt back, rising."""
    if len(folk) > MOST_FOR_ALL:
        raise TooMany(MOST_FOR_ALL)
    weights = lot_weights(cart, folk)
    found = [[NOUGHT]]
    for lot, pushes in enumerate(lot_pushes(folk)):
        if lot > 0:
            drives = [plus((push, weights[lot]), rest) for alone, push in pushes for rest in found[lot - alone]]
            found.append(rising(drives))
    return found[-1]


def best_order(cart, folk):
    """The first order of all folk by which the cart becomes fastest."""
    found = most_drives(cart, folk)
    names = {1 << at: name for at, name in enumerate(names_of(folk))}
    lot = len(found) - 1
    order = []
    while lot > 0:
        first = found[lot][2]
        order.append(names[first])
        lot = lot - first
    return tuple(order)


def table(cart, folk):
    """The table whose fractions are as small as can be."""
    worths = [fraction(top, bottom) for top, bottom, first in most_drives(cart, folk)]
    return tuple([(names, worths[lot]) for names, lot in rising_lots(folk)])


def is_row(names, thing):
    """Whether anything is a pair of the lot's names and a fraction."""
    return is_tuple_of(thing, 2) and thing[0] == names and is_fraction(thing[1])


def bounds_lot(worths, lot, pushes, weight):
    """Whether the lot's fraction is no less than whoever of it leaps first asks for."""
    top, bottom = worths[lot]
    weighed_top = top * weight
    weighed_bottom = bottom * weight
    for alone, push in pushes:
        rest_top, rest_bottom = worths[lot - alone]
        # The lot's fraction, less what this one drives, beside that of the rest.
        if (weighed_top - push * bottom) * rest_bottom < rest_top * weighed_bottom:
            return False
    return True


def are_bounds(cart, folk, worths):
    """Whether fractions, by lot, are great enough for a table."""
    if not is_at_least(worths[0], NOUGHT):
        return False
    weights = lot_weights(cart, folk)
    return all([
        bounds_lot(worths, lot, pushes, weights[lot])
        for lot, pushes in enumerate(lot_pushes(folk))
    ])


def shown(cart, folk, thing):
    """What anything shows as a table: the fraction of all folk; None where it is none."""
    lots = rising_lots(folk)
    if not is_tuple_of(thing, len(lots)):
        return None
    worths = {}
    for (names, lot), row in zip(lots, thing):
        if not is_row(names, row):
            return None
        worths[lot] = row[1]
    if not are_bounds(cart, folk, worths):
        return None
    return worths[len(lots) - 1]
