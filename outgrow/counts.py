"""The sums of a plan, by the sums of the plans that it calls.

The steps of a plan are those of its steps and calls, each for all numbers that the names around
it may have at once: those of one name are summed, each as often as there are numbers of the
others beside it.
"""

from outgrow.courses import (
    Tally, blended, called_course, count_course, count_product, cut, even_course, later, raised, running, side_by_side,
)
from outgrow.points import POINTS_TIMES, pieces_of
from outgrow.polynomials import added, shifted, value
from outgrow.stretches import row_at
from outgrow.sums import STEPS_TIMES, courses_of, sums_of
from outgrow.tables import worth
from outgrow.walks import again_of
from outgrow.zones import first_zone, moved, narrowed, narrowed_by, parted, sizes_of


class Spot:
    """Where a body stands: the zone of the names around it, None where it is never met, these names, n first,
    and how many doubles are around it."""

    def __init__(self, zone, around, doubles):
        self.zone = zone
        self.around = around
        self.doubles = doubles


class Count:
    """The sums and courses of the plans that are called, and the tallies by the power of the figures."""

    def __init__(self, called):
        self.called = called
        self.courses = {name: courses_of(called[name]) for name in called}
        self.tallies = {}


def plan_sums(plan, called):
    """The sums of a plan; called is a dict of the sums of those that it calls."""
    count = Count(called)
    count_body(count, plan, Spot(first_zone(), ["n"], 0))
    courses = {figures: whole_course(count.tallies[figures].course()) for figures in count.tallies}
    again = again_of(plan)
    if again is not None and again[2] == "less":
        # No figures stand in such a plan.
        courses = {figures: summed_course(courses[figures]) for figures in courses}
    return sums_of(courses)


def whole_course(course):
    return [(since, [part // POINTS_TIMES for part in polynomial]) for since, polynomial in course]


def summed_course(course):
    """The course that comes to at each size what this one comes to at all sizes from 0 up to it."""
    rows = running([(first, polynomial) for first, last, polynomial in cut(course, 0, None)])
    ahead = value(rows[0][1], -1)
    return [(since, added(polynomial, [-ahead])) for since, polynomial in rows]


def count_body(count, body, spot):
    """Count the steps of a body in, all that stands in brackets in it, too."""
    if spot.zone is None:
        return
    leaves = leaves_of(count, body)
    for name, figures in leaves:
        tally = count.tallies.setdefault(spot.doubles + figures, Tally())
        course = leaves[(name, figures)].course()
        if name == "n":
            count_size(tally, course, spot)
        else:
            count_name(tally, course, spot, name)
    for thing in body:
        if thing[0] in INNER:
            count_inner = INNER[thing[0]]
            count_inner(count, thing, spot)


def count_for(count, thing, spot):
    name, first, last, body = thing[1:]
    zone = narrowed_by(spot.zone, [(first, (name, 0)), ((name, 0), last)])
    count_body(count, body, Spot(zone, [*spot.around, name], spot.doubles))


def count_if(count, thing, spot):
    lesser, greater, body, other = thing[1:]
    count_body(count, body, Spot(narrowed(spot.zone, lesser, greater), spot.around, spot.doubles))
    count_body(count, other, Spot(narrowed(spot.zone, moved(greater, 1), lesser), spot.around, spot.doubles))


def count_double(count, thing, spot):
    count_body(count, thing[1], Spot(spot.zone, spot.around, spot.doubles + 1))


INNER = {
    "for": count_for,
    "if": count_if,
    "double": count_double,
}


def leaves_of(count, body):
    """A dict of tallies, by the name on which steps and calls of a body hang and by the power of the figures.

    What is the same for all numbers hangs on n, too.
    """
    found = {}
    for thing in body:
        if thing[0] == "step":
            add_leaf(found, "n", 0, even_course(thing[1] * STEPS_TIMES))
        elif thing[0] == "call":
            add_call(found, count, thing)
    return found


def add_leaf(found, name, figures, course):
    # What comes to 0 at all numbers needs no counting.
    if any([polynomial for since, polynomial in course]):
        count_course(found.setdefault((name, figures), Tally()), course)


def add_call(found, count, thing):
    called, (name, number) = thing[1:]
    if name == "":
        add_leaf(found, "n", 0, even_course(worth(count.called[called], number)[0] * STEPS_TIMES))
        return
    courses = count.courses[called]
    for figures in courses:
        add_leaf(found, name, figures, called_course(courses[figures], number))


def count_size(tally, course, spot):
    """Count in a course of the sizes, each as often as there are numbers of the names around."""
    points = Tally()
    for zone, columns in pieces_of(spot.zone, spot.around, "n"):
        first, last = sizes_of(zone)
        for column in columns:
            points.count_in(first, last, column)
    count_product(tally, points.course(), course)


def count_name(tally, course, spot, name):
    """Count in a course of a name's numbers, each as often as there are numbers of the other names beside it."""
    shares = shares_of(spot, name)
    sums = side_by_side([running(raised(course, exponent)) for exponent in range(many_powers(spot))])
    for bound in shares:
        rows = side_by_side([share.course() for share in shares[bound]])
        for first, last, columns in cut(rows, 0, None):
            if any(columns):
                count_up_to(tally, sums, bound, (first, last, columns))


def many_powers(spot):
    """How many powers of one name there are, the power 0 too, where the numbers of all others are counted."""
    return len(spot.around) - 1


def shares_of(spot, name):
    """A dict of lists of tallies, by bounds: a polynomial of n for each power of a name's numbers.

    So many times the sum, up to the bound, of all that is taken times that power is to be counted in.
    """
    shares = {}
    for zone, columns in pieces_of(spot.zone, spot.around, name):
        for low, high, rest in parted(zone, name):
            # The sum up to high has too much: all below low.
            for bound, sign in ((high, 1), (moved(low, -1), -1)):
                tallies = shares.setdefault(bound, [Tally() for exponent in range(many_powers(spot))])
                first, last = sizes_of(rest)
                for share, column in zip(tallies, columns):
                    share.count_in(first, last, [sign * part for part in column])
    return shares


def count_up_to(tally, sums, bound, share):
    """Count sums up to a bound in, each so many times as the column at its place tells."""
    base, number = bound
    first, last, columns = share
    if base == "":
        values = [[value(polynomial, number)] for polynomial in sums[row_at(sums, number)][1]]
        tally.count_in(first, last, blended(columns, values))
        return
    behind = [shifted(column, -number) for column in columns]
    for low, high, polynomials in cut(sums, first + number, later(last, number)):
        tally.count_in(low - number, later(high, -number), shifted(blended(behind, polynomials), number))
