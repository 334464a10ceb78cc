"""Sums made of courses, and courses made of sums.

Courses of steps are taken times STEPS_TIMES: steps are whole numbers and the powers of their
polynomials are at most 9, so all unders divide that.
"""

from outgrow.courses import Tally, cut, side_by_side
from outgrow.parts import part_of, power
from outgrow.polynomials import value
from outgrow.stretches import row_at, row_end

STEPS_TIMES = 362880


def courses_of(sums):
    """A dict of courses by the power of the figures that each is taken times, together what the sums come to."""
    tallies = {}
    for place, (since, terms) in enumerate(sums):
        for (power_of_n, figures), (over, under) in terms:
            polynomial = [0] * power_of_n + [over * (STEPS_TIMES // under)]
            tallies.setdefault(figures, Tally()).count_in(since, row_end(sums, place), polynomial)
    return {figures: tallies[figures].course() for figures in tallies}


def sums_of(courses):
    """The sums that come to what courses by the powers of the figures come to together, at sizes from 0 on."""
    return [(since, terms_of(columns)) for since, columns in lowered(joined_rows(courses))]


def joined_rows(courses):
    """Rows (since, columns), columns being a dict of polynomials of n by the power of the figures."""
    rows = cut(side_by_side(list(courses.values())), 0, None)
    return [(first, dict(zip(courses, polynomials))) for first, last, polynomials in rows]


def count_at(columns, size):
    figures_of_size = size.bit_length()
    return sum([value(columns[figures], size) * power(figures_of_size, figures) for figures in columns])


def lowered(rows):
    """The rows, from the last one down, each from the least size on at which it comes to what the row there does.

    So rows that only seem to be others fall away: none has terms where all of its sizes come to
    what the next one comes to, and where all sizes come to 0 there is one row without terms.
    """
    found = []
    place = len(rows) - 1
    while place >= 0:
        since, columns = rows[place]
        while since > 0 and count_at(columns, since - 1) == count_at(rows[row_at(rows, since - 1)][1], since - 1):
            since -= 1
        found.append((since, columns))
        while place >= 0 and rows[place][0] >= since:
            place -= 1
    return found[::-1]


def terms_of(columns):
    terms = []
    for figures in columns:
        for power_of_n, part in enumerate(columns[figures]):
            if part != 0:
                terms.append(((power_of_n, figures), part_of(part, STEPS_TIMES)))
    return sorted(terms, reverse=True)
