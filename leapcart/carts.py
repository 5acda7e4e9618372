"""Carts and the folk on them: how fast, and where, they are behind leaps."""

from leapcart.worth import NOUGHT, is_tuple_of, is_whole, is_whole_within, plus, plus_whole, times

MOST_CART = 1000
MOST_FOLK = 7
MOST_HEAVY = 200
MOST_LEAP = 100
MOST_LETTERS = 8
MOST_TUPLES = 7
WAYS = (1, -1)


def is_cart(thing):
    """Whether anything is a cart's weight."""
    return is_whole_within(thing, 1, MOST_CART)


def is_name(thing):
    """Whether anything is a name."""
    if not isinstance(thing, str) or not 1 <= len(thing) <= MOST_LETTERS:
        return False
    return all(["a" <= sign <= "z" for sign in thing])


def is_somebody(thing):
    """Whether anything is a triple (name, heavy, leap)."""
    if not is_tuple_of(thing, 3):
        return False
    name, heavy, leap = thing
    return is_name(name) and is_whole_within(heavy, 1, MOST_HEAVY) and is_whole_within(leap, 1, MOST_LEAP)


def names_of(rows):
    """The names that stand first in the rows, a tuple."""
    return tuple([row[0] for row in rows])


def names_rise(rows):
    """Whether the rows rise and no two have one name."""
    names = names_of(rows)
    return all([low < high for low, high in zip(names, names[1:])])


def are_folk(thing):
    """Whether anything is folk."""
    if not isinstance(thing, tuple) or not 1 <= len(thing) <= MOST_FOLK:
        return False
    return all([is_somebody(one) for one in thing]) and names_rise(thing)


def is_leap(names, thing):
    """Whether anything is a leap of somebody among the names."""
    if not is_tuple_of(thing, 2):
        return False
    name, way = thing
    return name in names and is_whole(way) and way in WAYS


def are_at_once(names, thing):
    """Whether anything is a rising tuple of one leap or more, each name once."""
    if not isinstance(thing, tuple) or len(thing) == 0:
        return False
    return all([is_leap(names, one) for one in thing]) and names_rise(thing)


def are_leaps(folk, thing):
    """Whether anything is leaps of the folk."""
    if not isinstance(thing, list) or len(thing) > MOST_TUPLES:
        return False
    names = names_of(folk)
    if not all([are_at_once(names, at_once) for at_once in thing]):
        return False
    leapt = [name for at_once in thing for name, way in at_once]
    return len(set(leapt)) == len(leapt)


def weigh(cart, aboard):
    """What the cart and all on it weigh."""
    return cart + sum([heavy for name, heavy, leap in aboard])


def driven(cart, aboard, speed, at_once):
    """The cart's speed behind leaps at once of some aboard."""
    ways = {name: way for name, way in at_once}
    push = sum([ways[name] * heavy * leap for name, heavy, leap in aboard if name in ways])
    return plus(speed, (-push, weigh(cart, aboard)))


def still_on(aboard, at_once):
    """Those of aboard who do not leap."""
    gone = names_of(at_once)
    return tuple([one for one in aboard if one[0] not in gone])


def speeds(cart, folk, speed, leaps):
    """The cart's speeds behind each tuple of leaps."""
    aboard = folk
    now = speed
    found = []
    for at_once in leaps:
        now = driven(cart, aboard, now, at_once)
        aboard = still_on(aboard, at_once)
        found.append(now)
    return found


def leap_by_name(folk):
    """How fast everybody leaps."""
    return {name: leap for name, heavy, leap in folk}


def leaper_speeds(fast, behind, at_once):
    """(name, speed) of those who leapt at once, fast by name, behind being the cart's speed then."""
    return [(name, plus_whole(behind, way * fast[name])) for name, way in at_once]


def leapers(cart, folk, speed, leaps):
    """The speeds of those who leapt, rising by names."""
    fast = leap_by_name(folk)
    found = []
    for behind, at_once in zip(speeds(cart, folk, speed, leaps), leaps):
        found.extend(leaper_speeds(fast, behind, at_once))
    return sorted(found)


def run_on(place, speed, since, hour):
    """The place, at the hour, of what was at a place since an hour with a speed."""
    return plus(place, times(speed, plus_whole(hour, -since)))


def places(cart, folk, timed, hour):
    """Where the cart, called "", and everybody is at the hour, rising by names."""
    # At the very hour of a leap nobody has moved by it yet, so it may count as done.
    done = [(at, at_once) for at, at_once in timed if at * hour[1] <= hour[0]]
    behind_each = speeds(cart, folk, NOUGHT, [at_once for at, at_once in done])
    fast = leap_by_name(folk)
    place = NOUGHT
    now = NOUGHT
    since = 0
    leapt = {}
    for (at, at_once), behind in zip(done, behind_each):
        place = run_on(place, now, since, (at, 1))
        for name, own in leaper_speeds(fast, behind, at_once):
            leapt[name] = run_on(place, own, at, hour)
        now = behind
        since = at
    place = run_on(place, now, since, hour)
    return [("", place)] + [(name, leapt.get(name, place)) for name in names_of(folk)]
