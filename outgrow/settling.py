"""From which least size on one of two sums is more, less or alike, and rows that show it.

The sizes are gone through from the greatest ones down, until the first one at which it is not so.
"""

from outgrow.bounds import MOST_SIZE_FIGURES
from outgrow.errors import Far
from outgrow.parts import sign_of
from outgrow.polynomials import is_endless, is_steady, runs, sign_at
from outgrow.stretches import block_sign, first_low, put_in, row_end, stretches_of


def settled(one, other):
    """(word, size, rows) of two sums; Far where the last size at which it is not so has too many figures."""
    stretches = stretches_of(one, other)
    powers = stretches[-1][1]
    if not powers:
        size = alike_from(stretches)
        return "alike", size, [("alike", size, None)]
    lead = powers[0][1]
    sign = sign_of(lead[-1])
    size, falling = settled_rows(stretches, sign)
    return "more" if sign > 0 else "less", size, falling[::-1]


def settled_rows(stretches, sign):
    """The least size from which on the sign is kept, and the rows that show it, the last one first."""
    low = first_low(stretches[-1])
    rows, wrong_figures = figures_rows(stretches[-1][1], low, sign)
    if wrong_figures is not None:
        check_near(wrong_figures)
        return 1 << wrong_figures, rows
    for figures, first, last, powers in falling_cells(stretches, (1 << (low - 1)) - 1):
        more, wrong = sizes_rows(put_in(powers, figures), first, last, sign)
        rows.extend(more)
        if wrong is not None:
            check_near(figures)
            return wrong + 1, rows
    return 0, rows


def check_near(figures):
    if figures > MOST_SIZE_FIGURES:
        raise Far()


def figures_rows(powers, low, sign):
    """The rows for all sizes of at least low figures, the last one first, and None.

    Where some of these sizes have not the sign: the rows behind them, and their greatest figures.
    """
    lead = powers[0][1]
    end = low
    while not is_endless(lead, end, sign):
        end *= 2
    rows = [("figures", end, None)]
    for first, last, found in reversed(runs(lead, low, end - 1)):
        if found == sign:
            rows.append(("figures", first, last))
        else:
            # Where the lead is nought the lesser powers decide; where it has the other sign it decides itself.
            for figures in reversed(range(first, last + 1)):
                if block_sign(powers, figures) != sign:
                    return rows, figures
                rows.append(("block", figures, figures))
    return rows, None


def sizes_rows(polynomial, low, high, sign):
    """The rows for the sizes from low to high, all of like figures, the last one first, and None.

    Where some of these sizes have not the sign: the rows behind them, and the greatest of them.
    """
    if sign_at(polynomial, high) != sign:
        return [], high
    if is_steady(polynomial, low, high, sign):
        return [("sizes", low, high)], None
    rows = []
    for first, last, found in reversed(runs(polynomial, low, high)):
        if found != sign:
            return rows, last
        rows.append(("sizes", first, last))
    return rows, None


def cells(low, high):
    """A list of (figures, first, last): the sizes from low to high, parted by their figures."""
    found = []
    while low <= high:
        figures = low.bit_length()
        last = min(high, (1 << figures) - 1)
        found.append((figures, low, last))
        low = last + 1
    return found


def falling_cells(stretches, high):
    """A list of (figures, first, last, powers), the greatest first: all sizes up to high, parted by stretches, too."""
    found = []
    for place, (since, powers) in enumerate(stretches):
        end = row_end(stretches, place)
        for figures, first, last in cells(since, high if end is None else end):
            found.append((figures, first, last, powers))
    return found[::-1]


def alike_from(stretches):
    """The least size from which on both sums are alike, the last stretch being nought."""
    for figures, first, last, powers in falling_cells(stretches, stretches[-1][0] - 1):
        wrong = last_unlike(put_in(powers, figures), first, last)
        if wrong is not None:
            check_near(figures)
            return wrong + 1
    return 0


def last_unlike(polynomial, low, high):
    """The greatest number from low to high at which a polynomial is not 0, None where it is 0 at all."""
    # It is 0 at fewer numbers than it has parts, unless it is nought.
    for number in reversed(range(max(low, high + 1 - len(polynomial)), high + 1)):
        if sign_at(polynomial, number) != 0:
            return number
    return None
