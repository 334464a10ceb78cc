"""Sums: what they come to, how they grow, which of two outgrows the other, and how they are written."""

from outgrow.errors import Uneven
from outgrow.parts import NOUGHT, part_of, part_sum, power, sign_of
from outgrow.proofs import proves
from outgrow.settling import settled
from outgrow.stretches import row_at, stretches_of


def worth(sums, size):
    """The part that sums come to at a size."""
    total = NOUGHT
    for (power_of_n, figures), (over, under) in sums[row_at(sums, size)][1]:
        times = power(size, power_of_n) * power(size.bit_length(), figures)
        total = part_sum(total, part_of(over * times, under))
    return total


def compared(one, other):
    """(word, size): from which least size on the first sums are more, less or alike; Far."""
    word, size, rows = settled(one, other)
    return (word, size)


def shown(one, other):
    """The list of rows that show what compared tells; Far."""
    return settled(one, other)[2]


def is_shown(one, other, answer, rows):
    """Whether the rows, built of anything, show that the answer is what compared should tell."""
    word, size = answer
    return proves(stretches_of(one, other), word, size, rows)


def growth(sums, *, many=0, base=2):
    """The growth of sums, or of a plan with these sums that does itself again so many times; Uneven."""
    terms = sums[-1][1]
    if not terms:
        return faint_growth(sums, many, base)
    power_of_n, figures = terms[0][0]
    own = (1 << power_of_n, 2, figures)
    if many == 0:
        return own
    usual = power(base, power_of_n)
    if many < usual:
        return own
    return told_growth(many, base, 0 if many > usual else figures + 1)


def faint_growth(sums, many, base):
    """The growth where the last row has no terms, so that only small sizes count, or none."""
    if many == 0 or not any([terms for since, terms in sums]):
        return None
    if worth(sums, 0) == NOUGHT:
        raise Uneven("")
    return told_growth(many, base, 0)


def told_growth(times, base, figures):
    """A growth as it is told: with base 2 where base 3 is not needed."""
    halves = 1
    rest = times
    while base == 3 and rest % 3 == 0:
        rest //= 3
        halves *= 2
    return (halves, 2, figures) if base == 3 and rest == 1 else (times, base, figures)


def greater_growth(one, other):
    """-1, 0 or 1, as the first growth is less than the second one, like it or greater."""
    if one is None or other is None:
        return (0 if one is None else 1) - (0 if other is None else 1)
    order = power_order(told_growth(*one), told_growth(*other))
    return sign_of(one[2] - other[2]) if order == 0 else order


def power_order(one, other):
    """-1, 0 or 1, by the powers of two growths: times is base to the power."""
    if one[1] == other[1]:
        return sign_of(one[0] - other[0])
    # Of other bases told powers are never alike: so often taken, they come to be a whole number apart.
    times = 1
    while True:
        order = sign_of(whole_power(one, times) - whole_power(other, times))
        if order != 0:
            return order
        times += 1


def whole_power(told, times):
    """So many times the power of a growth, rounded down."""
    wanted = power(told[0], times)
    found = 0
    reached = told[1]
    while reached <= wanted:
        reached *= told[1]
        found += 1
    return found


def growth_text(growth):
    """A growth as it is written."""
    if growth is None:
        return "none"
    times, base, figures = growth
    return f"{times} by {base}, figures {figures}"


def sums_text(sums):
    """Sums as they are written."""
    return " | ".join([f"{since}: {terms_text(terms)}" for since, terms in sums])


def terms_text(terms):
    if not terms:
        return "0"
    return " + ".join([term_text(powers, part) for powers, part in terms])


def term_text(powers, part):
    power_of_n, figures = powers
    return part_text(part) + power_text("n", power_of_n) + power_text("d", figures)


def part_text(part):
    over, under = part
    return str(over) if under == 1 else f"{over}/{under}"


def power_text(letter, exponent):
    """A blank, a letter and its power; nothing for the power 0."""
    if exponent == 0:
        return ""
    return f" {letter}" if exponent == 1 else f" {letter}^{exponent}"
