"""The first of two sums less the second one, stretch by stretch of the sizes.

Stretches are a list of rows (since, powers), since rising from 0; powers is a list of
(power of n, polynomial of d), falling, with whole parts, none of them nought.
"""

from outgrow.parts import NOUGHT, least_multiple, part_less, sign_of
from outgrow.polynomials import trimmed, value


def row_at(rows, size):
    """The place of the row in which a size lies: the last one whose since is not above it."""
    low = 0
    high = len(rows)
    while high - low > 1:
        middle = (low + high) // 2
        if rows[middle][0] <= size:
            low = middle
        else:
            high = middle
    return low


def row_end(rows, place):
    """The last size of a row, None where it has no end."""
    return None if place + 1 == len(rows) else rows[place + 1][0] - 1


def terms_less(one, other):
    """A dict of the parts, by their powers, of the first terms less the second ones."""
    found = {}
    for powers, part in one:
        found[powers] = part
    for powers, part in other:
        found[powers] = part_less(found.get(powers, NOUGHT), part)
    return {powers: found[powers] for powers in found if found[powers] != NOUGHT}


def whole_powers(terms):
    """The powers of a stretch, of its terms taken times the least number that makes all parts whole."""
    times = least_multiple([under for over, under in terms.values()])
    found = {}
    for power_of_n, figures in sorted(list(terms.keys()), reverse=True):
        over, under = terms[(power_of_n, figures)]
        # The greatest power of d comes first, so that the list has its length from the beginning.
        polynomial = found.setdefault(power_of_n, [0] * (figures + 1))
        polynomial[figures] = over * (times // under)
    return [(power_of_n, found[power_of_n]) for power_of_n in found]


def stretches_of(one, other):
    """The stretches of two sums, parted where a row of either one begins."""
    found = []
    for since in sorted(set([row[0] for row in one] + [row[0] for row in other])):
        terms = terms_less(one[row_at(one, since)][1], other[row_at(other, since)][1])
        found.append((since, whole_powers(terms)))
    return found


def put_in(powers, figures):
    """The polynomial of n that is left where the figures are put in for d."""
    if not powers:
        return []
    parts = [0] * (powers[0][0] + 1)
    for power_of_n, polynomial in powers:
        parts[power_of_n] = value(polynomial, figures)
    return trimmed(parts)


def sign_at_size(stretches, size):
    """-1, 0 or 1, as the first sums are less than the second ones, like them or greater at a size."""
    powers = stretches[row_at(stretches, size)][1]
    return sign_of(value(put_in(powers, size.bit_length()), size))


def lesser_weight(powers, figures):
    """The sum, over all terms of lesser powers of n than the greatest, of the part's size times the figures' power."""
    total = 0
    for power_of_n, polynomial in powers[1:]:
        total += value([abs(part) for part in polynomial], figures)
    return total


def least_low(stretch):
    """What low has to be at least in a row of figures, whatever the lesser terms come to."""
    since, powers = stretch
    most = max([len(polynomial) - 1 for power_of_n, polynomial in powers])
    return max(1, 2 * most, since.bit_length() + 1)


def may_be_low(stretch, figures):
    """Whether a row of figures in the last stretch may begin with these."""
    # Figures may be too many for 2 to their power to be written out, therefore lengths are compared.
    return figures >= least_low(stretch) and lesser_weight(stretch[1], figures).bit_length() < figures


def first_low(stretch):
    """The least figures with which a row of figures may begin; it may with all greater ones, too."""
    figures = least_low(stretch)
    while not may_be_low(stretch, figures):
        # The lesser terms weigh no less with more figures: with fewer than this it fails, too.
        figures = lesser_weight(stretch[1], figures).bit_length() + 1
    return figures


def block_sign(powers, figures):
    """The sign, at these figures, of the greatest power of n whose polynomial of d is not nought there."""
    for power_of_n, polynomial in powers:
        sign = sign_of(value(polynomial, figures))
        if sign != 0:
            return sign
    return 0
