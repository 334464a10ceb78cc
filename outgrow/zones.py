"""Zones: which numbers the names of a plan may have at once.

A zone is a dict of gaps: gaps[(low, high)] is the least that the name high is above the name low.
What follows from several gaps stands among them, too, and each gap is as great as it can be.
The empty name stands for 0, n for the size. A bound is a pair (name, number) like an end of a
plan: what the name stands for, and so much more.
"""


def first_zone():
    """The zone of the size alone."""
    return {("", "n"): 0}


def narrowed(zone, low, high):
    """The zone where the bound low is at most the bound high; None where nothing is left of it."""
    gap = low[1] - high[1]
    if is_at_most(zone, low, high):
        return zone
    # Where nothing is known of how far low is above high, nothing is against the gap.
    if low[0] == high[0] or zone.get((high[0], low[0]), -gap) + gap > 0:
        return None
    return with_gap(zone, low[0], high[0], gap)


def is_at_most(zone, low, high):
    """Whether the bound low is at most the bound high all over the zone."""
    gap = low[1] - high[1]
    if low[0] == high[0]:
        return gap <= 0
    return zone.get((low[0], high[0]), gap - 1) >= gap


def with_gap(zone, low, high, gap):
    """The zone with one gap that is greater now, and with all that follows from it."""
    found = {pair: zone[pair] for pair in zone}
    lows = [(below, zone[(below, above)]) for below, above in zone if above == low]
    highs = [(above, zone[(below, above)]) for below, above in zone if below == high]
    for below, under in [(low, 0), *lows]:
        for above, over in [(high, 0), *highs]:
            reach = under + gap + over
            if below != above and found.get((below, above), reach) <= reach:
                found[(below, above)] = reach
    return found


def narrowed_by(zone, pairs):
    """The zone where of each pair of bounds the first is at most the second; None where nothing is left of it."""
    for low, high in pairs:
        zone = narrowed(zone, low, high)
        if zone is None:
            return None
    return zone


def without(zone, name):
    """The zone of all other names, wherever some number of this one is left."""
    return {pair: zone[pair] for pair in zone if name not in pair}


def thinned(bounds, is_needless):
    """The bounds but for those that are needless beside another one that is left."""
    for bound in list(bounds):
        others = [other for other in bounds if other != bound]
        if any([is_needless(bound, other) for other in others]):
            bounds = others
    return bounds


def lows_of(zone, name):
    """The bounds of which the greatest is the least number of a name, but for those that never need to be."""
    lows = [(below, zone[(below, above)]) for below, above in zone if above == name]
    return thinned(lows, lambda low, other: is_at_most(zone, low, other))


def highs_of(zone, name):
    """The bounds of which the least is the greatest number of a name, but for those that never need to be."""
    highs = [(above, -zone[(below, above)]) for below, above in zone if below == name]
    return thinned(highs, lambda high, other: is_at_most(zone, other, high))


def moved(bound, number):
    """The bound that is so much more."""
    return (bound[0], bound[1] + number)


def where_greatest(zone, bounds, place):
    """The zone where the bound at this place is the greatest, and the first one of those that are alike."""
    ahead = [(moved(other, 1), bounds[place]) for other in bounds[:place]]
    behind = [(other, bounds[place]) for other in bounds[place + 1:]]
    return narrowed_by(zone, ahead + behind)


def where_least(zone, bounds, place):
    """The zone where the bound at this place is the least, and the first one of those that are alike."""
    ahead = [(moved(bounds[place], 1), other) for other in bounds[:place]]
    behind = [(bounds[place], other) for other in bounds[place + 1:]]
    return narrowed_by(zone, ahead + behind)


def parted(zone, name):
    """A list of (low, high, rest): for each part of the zone of the other names, from where to where this one goes."""
    found = []
    highs = highs_of(zone, name)
    lows = lows_of(zone, name)
    for low_place, low in enumerate(lows):
        below = where_greatest(without(zone, name), lows, low_place)
        if below is None:
            continue
        for high_place, high in enumerate(highs):
            rest = where_least(below, highs, high_place)
            if rest is not None:
                found.append((low, high, rest))
    return found


def sizes_of(zone):
    """The first and the last size of a zone, None for without end."""
    last = None if ("n", "") not in zone else -zone[("n", "")]
    return zone[("", "n")], last
