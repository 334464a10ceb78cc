"""Courses: what a count comes to at each number, as rows of polynomials.

A course is a list of rows (since, polynomial), since rising, each for the numbers up to the next
one's; the first one stands for all lower numbers, too.
"""

from outgrow.polynomials import added, product, shifted, summed_up, trimmed, value
from outgrow.stretches import row_at, row_end

# Where the first row of a course begins: below each number at which a row of a plan can begin.
LOWEST = -1000


class Tally:
    """Polynomials that are counted in, each for a run of numbers, until all are told as one course."""

    def __init__(self):
        self.changes = {LOWEST: []}

    def count_in(self, first, last, polynomial):
        """Count a polynomial in from a first number to a last one, None for without end."""
        self.change(first, polynomial)
        if last is not None:
            self.change(last + 1, [-part for part in polynomial])

    def change(self, since, polynomial):
        self.changes[since] = added(self.changes.get(since, []), polynomial)

    def course(self):
        rows = []
        polynomial = []
        for since in sorted(list(self.changes.keys())):
            polynomial = added(polynomial, self.changes[since])
            if not rows or self.changes[since]:
                rows.append((since, polynomial))
        return rows


def even_course(number):
    """The course that comes to the same at all numbers."""
    return [(LOWEST, trimmed([number]))]


def lesser_end(one, other):
    """The lesser of two last numbers, None for without end."""
    if one is None or other is None:
        return other if one is None else one
    return min(one, other)


def cut(rows, first, last):
    """A list of (first, last, what stands there): the rows from a first number to a last one, None for without end."""
    found = []
    for place in range(row_at(rows, first), len(rows)):
        high = lesser_end(row_end(rows, place), last)
        found.append((first, high, rows[place][1]))
        if high == last:
            break
        first = high + 1
    return found


def course_value(course, number):
    return value(course[row_at(course, number)][1], number)


def moved_course(course, number):
    """The course that comes to at a number what this one comes to so much behind it."""
    return [(since - number, shifted(polynomial, number)) for since, polynomial in course]


def called_course(course, number):
    """The course that comes to at a number what this one does so much behind it, or at 0 where that is below 0."""
    sizes = [(first, polynomial) for first, last, polynomial in cut(course, 0, None)]
    return even_course(course_value(course, 0)) + moved_course(sizes, number)


def running(course):
    """A course that is at each number so much more than ahead of it as this one comes to there."""
    rows = []
    for since, polynomial in course:
        sums = summed_up(polynomial)
        if rows:
            gap = value(rows[-1][1], since - 1) - value(sums, since - 1)
            sums = added(sums, [gap])
        rows.append((since, sums))
    return rows


def raised(course, exponent):
    """The course taken times its number to a power."""
    return [(since, [0] * exponent + polynomial) for since, polynomial in course]


def side_by_side(courses):
    """Rows (since, polynomials), with the polynomials of all courses there in the order of the courses."""
    sinces = [LOWEST]
    for course in courses:
        sinces.extend([since for since, polynomial in course])
    return [(since, [course[row_at(course, since)][1] for course in courses]) for since in sorted(set(sinces))]


def blended(one, other):
    """The sum of the products of the polynomials at like places."""
    total = []
    for polynomial, more in zip(one, other):
        total = added(total, product(polynomial, more))
    return total


def later(last, number):
    """A last number that is so much later, None for without end."""
    return None if last is None else last + number


def count_course(tally, course):
    for first, last, polynomial in cut(course, LOWEST, None):
        tally.count_in(first, last, polynomial)


def count_product(tally, one, other):
    """Count the product of two courses in."""
    for first, last, polynomial in cut(one, LOWEST, None):
        for low, high, more in cut(other, first, last):
            tally.count_in(low, high, product(polynomial, more))
