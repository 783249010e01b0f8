"""Roads: the least ways of a plan, and the prices of its places."""

from freshreach.errors import NoCuts, NoPlace
from freshreach.kinds import is_tuple, is_whole, is_within, rises
from freshreach.plans import check_plan


def least_long(plan, one, other, *, cuts=()):
    """The least long of a way from one place to the other, None where there is no way."""
    roads = checked_roads(plan, cuts, (one, other))
    return longs_from(len(plan[0]), roads, one)[other]


def least_way(plan, one, other, *, cuts=()):
    """The way of the least long, of several the least tuple; None where there is none."""
    roads = checked_roads(plan, cuts, (one, other))
    longs = longs_from(len(plan[0]), roads, other)
    if longs[one] is None:
        return None
    way = [one]
    while way[-1] != other:
        way.append(least_step(roads, longs, way[-1]))
    return tuple(way)


def is_least_way(plan, one, other, thing, *, cuts=()):
    """Whether it is a way from one place to the other of the least long, of anything."""
    roads = checked_roads(plan, cuts, (one, other))
    if not are_unlike_wholes(thing) or thing[0] != one or thing[-1] != other:
        return False
    long = long_of(roads, thing)
    return long is not None and long == longs_from(len(plan[0]), roads, one)[other]


def prices(plan, place, *, cuts=()):
    """For each place the least long of a way to it, None where there is none."""
    roads = checked_roads(plan, cuts, (place,))
    return tuple(longs_from(len(plan[0]), roads, place))


def are_prices(plan, place, thing, *, cuts=()):
    """Whether it is the prices of the place, of anything."""
    roads = checked_roads(plan, cuts, (place,))
    if not is_tuple(thing, len(plan[0]), len(plan[0])):
        return False
    return all([is_price(price, at == place) for at, price in enumerate(thing)]) and are_shown(thing, place, roads)


def checked_roads(plan, cuts, places):
    """The roads that aren't cut, once all that was handed in is looked at."""
    check_plan(plan)
    if not are_cuts(cuts, plan):
        raise NoCuts("no cuts of this plan were handed in")
    for place in places:
        if not is_within(place, 0, len(plan[0]) - 1):
            raise NoPlace("no place of this plan was handed in")
    return whole_roads(plan, cuts)


def are_cuts(thing, plan):
    if not isinstance(thing, tuple):
        return False
    pairs = [road[:2] for road in plan[1]]
    return all([is_cut(cut, pairs) for cut in thing]) and rises(thing)


def is_cut(thing, pairs):
    # (False, True) equals (0, 1): the kinds of the parts are looked at, too.
    return is_tuple(thing, 2, 2) and all([is_whole(place) for place in thing]) and thing in pairs


def whole_roads(plan, cuts):
    return [road for road in plan[1] if road[:2] not in cuts]


def longs_from(many, roads, place):
    """For each of many places the least long from the place over the roads, or None."""
    longs = [None] * many
    longs[place] = 0
    # A way of unlike places has at most many - 1 roads, so as many rounds settle all.
    for turn in range(many - 1):
        for one, other, long in roads:
            shorten(longs, one, other, long)
            shorten(longs, other, one, long)
    return longs


def shorten(longs, start, end, long):
    if longs[start] is None:
        return
    reach = longs[start] + long
    if longs[end] is None or reach < longs[end]:
        longs[end] = reach


def least_step(roads, longs, place):
    """The least place next on a least way, by the longs that each place still has to go."""
    both = roads + [(other, one, long) for one, other, long in roads]
    return min([end for start, end, long in both if start == place and longs[end] + long == longs[place]])


def are_unlike_wholes(thing):
    """Whether it is a tuple of at least one whole number, none of them twice."""
    if not isinstance(thing, tuple) or not thing:
        return False
    return all([is_whole(part) for part in thing]) and len(set(thing)) == len(thing)


def long_of(roads, way):
    """The long of the roads along the way, None where two places side by side aren't tied."""
    longs = {(one, other): long for one, other, long in roads}
    total = 0
    for start, end in zip(way, way[1:]):
        long = longs.get((min(start, end), max(start, end)))
        if long is None:
            return None
        total += long
    return total


def is_price(thing, at_place):
    if thing is None:
        return not at_place
    return is_whole(thing) and thing >= 0 and (thing == 0) == at_place


def are_shown(longs, place, roads):
    """Whether one look over the roads shows that no way is shorter, or longer, than told."""
    come = {place: True}
    for one, other, long in roads:
        if longs[one] is None and longs[other] is None:
            continue
        if longs[one] is None or longs[other] is None or abs(longs[one] - longs[other]) > long:
            return False
        if abs(longs[one] - longs[other]) == long:
            further = one if longs[one] > longs[other] else other
            come[further] = True
    return all([price is None or at in come for at, price in enumerate(longs)])
