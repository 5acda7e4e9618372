"""Wished speeds: the fewest folk who bring the cart to one, and leaps that bring it to rest.

Lots are numbers here, as in leapcart.fastest.
"""

from leapcart.errors import TooMany
from leapcart.fastest import lot_pushes, lot_weights, rising_lots
from leapcart.worth import common_multiple, is_at_least

MOST_TO_REST = 5
# Back stands ahead of ahead, as it does in the order of lists of leaps.
WAYS_RISING = (-1, 1)


def most_behind(found, left, pushes):
    """(top, bottom) of the greatest speed behind leaps back of the next lot, found being those ahead of it."""
    lot = len(found)
    # Less than any fraction, whatever it is compared with.
    most, under = -1, 0
    for alone, push in pushes:
        ahead = lot - alone
        top, bottom = found[ahead]
        top = top * left[ahead] + push * bottom
        bottom = bottom * left[ahead]
        if top * under > most * bottom:
            most, under = top, bottom
    return (most, under)


def reached(cart, folk):
    """By lot, (top, bottom) of the greatest speed behind leaps back of just this lot, the others staying.

    Whoever of a lot leaps last, the others of it have best leapt as is best for them. Common divisors
    are left in: so few fractions are added up that it takes longer to look for them.
    """
    # What is left when a lot has leapt is what the other lot, all but it, weighs with the cart.
    left = lot_weights(cart, folk)[::-1]
    found = [(0, 1)]
    for pushes in lot_pushes(folk)[1:]:
        found.append(most_behind(found, left, pushes))
    return found


def fewest_for(cart, folk, speed):
    """The fewest folk by whose leaps back the cart comes to the speed or more; None where none do."""
    found = reached(cart, folk)
    enough = [names for names, lot in rising_lots(folk) if is_at_least(found[lot], speed)]
    return min(enough, key=len, default=None)


def scaled_drives(folk, weights, common):
    """By lot, an (alone, name, drive) for each one of it: by how much they drive the cart, times common."""
    names = {1 << at: one[0] for at, one in enumerate(folk)}
    return [
        [(alone, names[alone], push * (common // weight)) for alone, push in pushes]
        for pushes, weight in zip(lot_pushes(folk), weights)
    ]


def most_by_lot(drives):
    """By lot, the most by which all of it can drive the cart, times common."""
    found = [0]
    for lot in range(1, len(drives)):
        found.append(max([drive + found[lot - alone] for alone, name, drive in drives[lot]]))
    return found


def last_leaps(drives, states):
    """The first leaps that end a state at rest; None where no state is one leap from it."""
    for now, lot, leaps in states:
        for alone, name, drive in drives[lot]:
            if drive == abs(now):
                # Who leaps ahead slows a cart that runs ahead.
                return leaps + [((name, 1 if now > 0 else -1),)]
    return None


def next_states(drives, most, states):
    """All states one leap further from which rest can still be reached, in the order of their leaps."""
    found = []
    for now, lot, leaps in states:
        for alone, name, drive in drives[lot]:
            for way in WAYS_RISING:
                behind = now - way * drive
                if abs(behind) <= most[lot - alone]:
                    found.append((behind, lot - alone, leaps + [((name, way),)]))
    return found


def to_rest(cart, folk, speed):
    """The fewest leaps, one by one, behind which the cart, at the speed at first, rests; None where none do."""
    if len(folk) > MOST_TO_REST:
        raise TooMany(MOST_TO_REST)
    top, bottom = speed
    if top == 0:
        return []
    weights = lot_weights(cart, folk)
    common = common_multiple(weights[1:])
    # No leaps drive the cart by a fraction whose bottom does not divide what all weights divide.
    if common % bottom != 0:
        return None
    drives = scaled_drives(folk, weights, common)
    most = most_by_lot(drives)
    # A state is (speed times common, lot on the cart, leaps up to it).
    states = [(top * (common // bottom), len(drives) - 1, [])]
    while len(states) > 0:
        found = last_leaps(drives, states)
        if found is not None:
            return found
        states = next_states(drives, most, states)
    return None
