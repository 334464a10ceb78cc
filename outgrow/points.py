"""How many numbers the names of a zone have, by the size and one of these names.

A polynomial of several names is a dict of its parts by their powers, a tuple with one power for
each name, n first. Its parts are taken times POINTS_TIMES: it comes to whole numbers throughout
and its powers are at most 4 together, so all of its unders divide that.
"""

from outgrow.polynomials import POWER_SUMS, SUMS_TIMES, shifted, trimmed, value
from outgrow.zones import parted

POINTS_TIMES = 24


def pieces_of(zone, names, kept):
    """A list of (zone, columns), the zones being of n and the kept name, which may be n itself.

    In each of these zones all other names have so many numbers together: the columns are
    polynomials of n, of which the first one is taken times 1, the next one times the kept
    name's number, the next one times its square, and so on.
    """
    pieces = [(zone, {tuple([0] * len(names)): POINTS_TIMES})]
    for name in reversed(names):
        if name not in ("n", kept):
            pieces = summed_pieces(pieces, names, name)
    place = names.index(kept)
    return [(rest, columns_of(polynomial, place)) for rest, polynomial in pieces]


def summed_pieces(pieces, names, name):
    found = []
    for zone, polynomial in pieces:
        for low, high, rest in parted(zone, name):
            found.append((rest, summed(polynomial, names, name, low, high)))
    return found


def summed(polynomial, names, name, low, high):
    """The polynomial of the other names: this one summed over all numbers of a name from low to high."""
    place = names.index(name)
    ahead = (low[0], low[1] - 1)
    found = {}
    for powers in polynomial:
        part = polynomial[powers]
        rest = with_power(powers, place, 0)
        sums = POWER_SUMS[powers[place]]
        add_at(found, names, rest, high, [part * share for share in sums])
        add_at(found, names, rest, ahead, [-part * share for share in sums])
    return {powers: found[powers] // SUMS_TIMES for powers in found if found[powers] != 0}


def with_power(powers, place, exponent):
    return powers[:place] + (exponent,) + powers[place + 1:]


def add_at(found, names, powers, bound, polynomial):
    """Add a polynomial of one number, taken times the powers, with the bound put in for that number."""
    name, number = bound
    if name == "":
        found[powers] = found.get(powers, 0) + value(polynomial, number)
        return
    place = names.index(name)
    for more, part in enumerate(shifted(polynomial, number)):
        key = with_power(powers, place, powers[place] + more)
        found[key] = found.get(key, 0) + part


def columns_of(polynomial, place):
    """The columns of a polynomial of n and the name at a place."""
    columns = []
    for powers in polynomial:
        # Where n itself is kept, all of its powers stand in one column.
        exponent = 0 if place == 0 else powers[place]
        columns.extend([[] for more in range(exponent + 1 - len(columns))])
        column = columns[exponent]
        column.extend([0] * (powers[0] + 1 - len(column)))
        column[powers[0]] += polynomial[powers]
    return [trimmed(column) for column in columns]
