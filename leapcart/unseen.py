"""A heavy, or a leap, that nobody has seen, told of by how much faster the cart becomes.

Somebody leaps back with all on the cart till then, so that
heavy times leap, by what the cart and all on it weigh, is how much faster it becomes.
"""

from leapcart.carts import weigh
from leapcart.worth import fraction


def row_of(folk, name):
    """The triple of this name."""
    return [one for one in folk if one[0] == name][0]


def others(folk, name):
    """All folk but the one of this name."""
    return tuple([one for one in folk if one[0] != name])


def heavy_by(cart, folk, name, more):
    """The heavy by which this one, leaping back, makes the cart faster by more; None where none does."""
    # The heavy that stands in the folk may be anything, so it is left out even of the sum.
    leap = row_of(folk, name)[2]
    rest = weigh(cart, others(folk, name))
    top, bottom = more
    # However heavy they are, the cart gains less than they leap.
    if top >= leap * bottom:
        return None
    return fraction(top * rest, leap * bottom - top)


def leap_by(cart, folk, name, more):
    """The leap by which this one, leaping back, makes the cart faster by more."""
    # The leap that stands in the folk may be anything: what all weigh does not look at it.
    heavy = row_of(folk, name)[1]
    top, bottom = more
    return fraction(top * weigh(cart, folk), heavy * bottom)
