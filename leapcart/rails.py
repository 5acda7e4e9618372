"""A rail: a cart and its folk, kept deed by deed."""

from leapcart.carts import are_at_once, are_folk, driven, is_cart, leap_by_name, leaper_speeds, names_of, still_on
from leapcart.errors import NoCart, NoFolk, NoLeaps, NothingLeft
from leapcart.fastest import greatest
from leapcart.worth import NOUGHT


class Rail:
    """A cart and folk, at rest at first; busy is True only while a deed is done."""

    def __init__(self, cart, folk):
        if not is_cart(cart):
            raise NoCart("not a cart's weight")
        if not are_folk(folk):
            raise NoFolk("not folk")
        self.cart = cart
        self.folk = folk
        self.now = NOUGHT
        self.carried = folk
        self.gone = ()
        self.past = []
        self.busy = False

    def leap(self, leaps):
        """Some on the cart leap at once."""
        if not are_at_once(self.aboard(), leaps):
            raise NoLeaps("not a rising tuple of leaps of those on the cart")
        self.busy = True
        try:
            self.go_on(leaps)
        finally:
            self.busy = False

    def go_on(self, leaps):
        """Keep what was, and become what is behind the leaps."""
        now = driven(self.cart, self.carried, self.now, leaps)
        gone = tuple(sorted(list(self.gone) + leaper_speeds(leap_by_name(self.folk), now, leaps)))
        self.past.append((self.now, self.carried, self.gone))
        self.carried = still_on(self.carried, leaps)
        self.now = now
        self.gone = gone

    def back(self):
        """What was done last is taken back."""
        if len(self.past) == 0:
            raise NothingLeft("nothing was done that is not taken back")
        self.busy = True
        try:
            self.now, self.carried, self.gone = self.past.pop()
        finally:
            self.busy = False

    def speed(self):
        """The cart's speed."""
        return self.now

    def aboard(self):
        """The names of those on the cart, rising."""
        return names_of(self.carried)

    def leapers(self):
        """The speeds of those who leapt, rising by names."""
        return list(self.gone)

    def still(self):
        """How much faster than now all on the cart could still drive it."""
        return greatest(self.cart, self.carried)

    def __len__(self):
        return len(self.carried)

    def __eq__(self, other):
        # Who is on the cart follows from the folk and from who is among the gone.
        return (
            isinstance(other, Rail)
            and self.cart == other.cart
            and self.folk == other.folk
            and self.now == other.now
            and self.gone == other.gone
        )
