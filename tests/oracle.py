"""What the document says, worked out anew with Python's own fractions, and things to ask it of."""

from fractions import Fraction
from itertools import combinations, permutations, product
from random import Random

SMALL = (("a", 60, 3), ("b", 80, 3), ("c", 40, 5))
SEVEN = (("a", 1, 1), ("b", 200, 100), ("c", 70, 3), ("d", 70, 3), ("e", 35, 6), ("f", 9, 99), ("g", 120, 1))
# Weights and leaps without common divisors: what takes longest to reckon with.
PRIMES = (("ann", 199, 97), ("bo", 193, 89), ("cy", 181, 83), ("dee", 173, 79), ("eli", 167, 73), ("fay", 157, 71),
          ("gus", 149, 67))

# Things that are no cart's weight, no folk, no leaps and no table.
ANYTHING = (
    None, True, False, 0, -1, 1001, 10**40, 1.0, 1.5, "", "a", "1", "percent\n", (), (1,), (None,), ("a",), ([],),
    ((),), [()], [[]], [None], [1], ["a"], [True], (True, False), [("a",)], (("a", 1),), [[("a", 1)]],
    ("a", 1, 1), ["a", 1, 1], (("a", 1, 1), None), [("a", 1, 1)], ((("a", 1, 1),),), tuple([()] * 300), [()] * 300,
)


def nested(depth):
    """Tuples and lists within one another, by turns."""
    thing = "a"
    for at in range(depth):
        thing = (thing,) if at % 2 else [thing]
    return thing


def frac(pair):
    return Fraction(pair[0], pair[1])


def pair(number):
    return (number.numerator, number.denominator)


def behind(cart, aboard, speed, at_once):
    """The cart's speed behind leaps at once, from the balance of weight times speed alone."""
    ways = dict(at_once)
    before = (cart + sum(heavy for name, heavy, leap in aboard)) * speed
    # before = (cart + those left) * x + the sum of heavy * (x + way * leap), solved for x.
    weight = cart
    for name, heavy, leap in aboard:
        weight += heavy
        if name in ways:
            before -= heavy * ways[name] * leap
    return Fraction(before) / weight


def cart_speeds(cart, folk, speed, leaps):
    found = []
    aboard = list(folk)
    for at_once in leaps:
        speed = behind(cart, aboard, speed, at_once)
        aboard = [one for one in aboard if one[0] not in dict(at_once)]
        found.append(speed)
    return found


def own_speeds(cart, folk, speed, leaps):
    leap_of = {name: leap for name, heavy, leap in folk}
    found = {}
    for speed, at_once in zip(cart_speeds(cart, folk, speed, leaps), leaps):
        for name, way in at_once:
            found[name] = speed + way * leap_of[name]
    return found


def back(order):
    """Leaps back, one by one."""
    return [((name, -1),) for name in order]


def orders(folk):
    return list(permutations([name for name, heavy, leap in folk]))


def by_order(cart, folk):
    """The cart's last speed by each order of all, one by one, back, from rest."""
    return {order: cart_speeds(cart, folk, Fraction(0), back(order))[-1] for order in orders(folk)}


def groupings(names):
    """Every way to let some of the names leap, in tuples at once, one behind the other."""
    yield []
    for many in range(1, len(names) + 1):
        for group in combinations(names, many):
            rest = [name for name in names if name not in group]
            for later in groupings(rest):
                yield [group] + later


def any_leaps(folk):
    """All leaps of the folk: everybody who leaps ahead or back, alone or with others."""
    for groups in groupings([name for name, heavy, leap in folk]):
        many = sum(len(group) for group in groups)
        for ways in product((1, -1), repeat=many):
            left = list(ways)
            yield [tuple((name, left.pop()) for name in group) for group in groups]


def lots(folk):
    """Every lot of names, rising."""
    names = [name for name, heavy, leap in folk]
    return sorted(lot for many in range(len(names) + 1) for lot in combinations(names, many))


def random_cases(many, most_folk, seed=1):
    """Carts and folk of all sizes, the same at every run."""
    chance = Random(seed)
    for at in range(many):
        names = sorted(chance.sample("abcdefghijkl", 1 + at % most_folk))
        folk = tuple((name, chance.randint(1, 200), chance.randint(1, 100)) for name in names)
        yield chance.choice((1, 1000, chance.randint(1, 1000))), folk


def random_small_cases(many, most_folk, seed):
    """Carts and folk of all sizes, of small numbers, the same at every run."""
    chance = Random(seed)
    for at in range(many):
        names = "abcdefg"[:1 + at % most_folk]
        yield chance.randint(1, 4), tuple((name, chance.randint(1, 3), chance.randint(1, 3)) for name in names)


def random_leaps(folk, seed):
    """Some leaps of the folk, the same at every run."""
    chance = Random(seed)
    names = [name for name, heavy, leap in folk]
    chance.shuffle(names)
    leaps = []
    while names and chance.random() < 0.9:
        many = chance.randint(1, len(names))
        leaps.append(tuple(sorted((name, chance.choice((1, -1))) for name in names[:many])))
        names = names[many:]
    return leaps
